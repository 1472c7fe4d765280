import Derived.Lib.ValidLaws
import Derived.Lib.DecodeN
import Derived.LoopTactic
import Derived.Test.YthmdjhfbhbheeaaGreatDoorPoints
namespace Go.Proofs.YthmdjhfbhbheeaaGreatDoor
open Go.Proofs.Tryz
set_option maxHeartbeats 2000000
set_option maxRecDepth 100000
section
open Go.RowKit Go.PlainAid Go.Lib
def ptI(n B0 B1 B2 B3:Int):Int:=
 if B0<128 then 1
 else if B0<192 then 0
 else if B0<224 then p2 n B0 B1
 else if B0<240 then p3 n B0 B1 B2
 else if B0<248 then p4 n B0 B1 B2 B3
 else 0
theorem zXI(s:ByteArray)(i:Nat):ptS s i=ptI (s.size-i) (bt s i) (bt s (i+1)) (bt s (i+2)) (bt s (i+3)):=rfl
def Same(p:Int)(n:Nat)(r:Nat×Nat):Prop:=(p=0∧r=(65533,1))∨(p=(r.2:Int)∧1≤r.2∧r.2≤n∧¬(r.1=65533∧r.2=1))
theorem zSS(n b0 b1 b2 b3:Nat)(hn:1≤n)(h0:b0<256)(h1:b1<256)(h2:b2<256)(h3:b3<256):Same (ptI n b0 b1 b2 b3) n (decodeN n b0 b1 b2 b3):=by
 unfold ptI p2 p3 p4 decodeN Same
 repeat' split
 all_goals first
  | exact Or.inl ⟨rfl,rfl⟩
  | (exfalso;omega)
  | (refine Or.inr ⟨rfl,?_,?_,?_⟩<;>simp only<;>omega)
theorem zJH(s:ByteArray)(i:Nat):bt s i=((s.get! i).toNat:Int):=by
 by_cases h:i<s.size
 ·unfold bt
  rw[dif_pos h]
  have:s.get! i=s[i]:=by
   show s.data[i]! = s.data[i];exact getElem!_pos s.data i h
  rw[this]
 ·rw[bt_end s (by omega)]
  have:s.get! i=0:=by
   show s.data[i]! = 0;exact getElem!_neg s.data i h
  rw[this];rfl
theorem zIZ(s:ByteArray)(i:Nat)(h:i<s.size):Same (ptS s i) (s.size-i) (Utf8.decode s i):=by
 rw[decode_at,zXI,zJH,zJH,zJH,zJH]
 have e:((s.size:Int)-(i:Int))=((s.size-i:Nat):Int):=by omega
 rw[e];exact zSS _ _ _ _ _ (by omega) (UInt8.toNat_lt _) (UInt8.toNat_lt _) (UInt8.toNat_lt _) (UInt8.toNat_lt _)
theorem zJl(s:ByteArray)(i:Nat):s.get! i=s.data.toList.getD i 0:=by
 rw[List.getD_eq_getElem?_getD,Array.getElem?_toList];show s.data[i]! = _;rw[getElem!_def];cases s.data[i]?<;>rfl
theorem zJs(s:ByteArray)(i:Nat):decodeL (s.data.toList.drop i)=Utf8.decode s i:=by
 unfold decodeL;rw[decode_at,decode_at]
 have g:∀k,(ByteArray.mk (s.data.toList.drop i).toArray).get! k=s.get! (i+k):=fun k=>by
  rw[zJl,zJl,List.getD_eq_getElem?_getD,List.getD_eq_getElem?_getD];show((s.data.toList.drop i)[k]?).getD 0=_;rw[List.getElem?_drop]
 have z:(ByteArray.mk (s.data.toList.drop i).toArray).size=s.size-i:=by
  show(s.data.toList.drop i).toArray.size=s.data.size-i;rw[List.size_toArray,List.length_drop,Array.length_toList]
 rw[g,g,g,g,z];rfl
theorem zNF(s:ByteArray)(i:Nat)(h:i<s.size):s.data.toList.drop i≠[]:=by
 intro e;have:=congrArg List.length e;rw[List.length_drop,Array.length_toList] at this;have:s.data.size-i=0:=this;have:s.size=s.data.size:=rfl;omega
theorem zIs(s:ByteArray)(i:Nat)(h:i<s.size) :
  (ptS s i=0∧validD (s.data.toList.drop i)=false)∨(∃k:Nat,ptS s i=k∧1≤k∧i+k≤s.size∧validD (s.data.toList.drop i)=validD (s.data.toList.drop (i+k))):=by
 have hv:=validD_step (s.data.toList.drop i) (zNF s i h);rw[zJs] at hv
 rcases zIZ s i h with ⟨h1,h2⟩|⟨h1,h2,h3,h4⟩
 ·rw[if_pos (by rw[h2];exact⟨rfl,rfl⟩)] at hv
  exact Or.inl ⟨h1,hv⟩
 ·rw[if_neg h4,List.drop_drop] at hv
  exact Or.inr ⟨_,h1,h2,by omega,hv⟩
theorem zKI(s:ByteArray)(hs:s.size≤4611686018427387904)(w:World) :
  Calls prog 40 #[.string s] w fun e w'=>(∃r:Int,e=.returned (.int .i64 r)∧((r = -1∧validD s.data.toList=false)∨(0≤r∧validD s.data.toList=true)))∧w'=w:=by
 go_enter func40,ntmps40
 go_wp2
 go_loop [3,4] (fun k i=>∃n m:Nat,n≤s.size∧m≤n∧k=.int .i64 m∧i=.int .i64 n∧validD s.data.toList=validD (s.data.toList.drop n)) (fun _ i=>s.size-(intOf i).toNat)
 case atStart=>exact⟨0,0,Nat.zero_le _,Nat.le_refl _,rfl,rfl,by rw[List.drop_zero]⟩
 case round=>
  obtain⟨n,m,hn,hm,rfl,rfl,hv⟩:=hrel;have HV:Hid (validD s.data.toList=validD (s.data.toList.drop n)):=hv;clear hv
  by_cases hlt:n<s.size
  ·have HA:Hid _:=zIs s n hlt
   have hI:(n:Int)<(s.size:Int):=by omega
   have HP:Hid _:=zGF s n hlt hs
   go_wp2_with fail
   refine(HP.out _).mono ?_;rintro e w1 ⟨⟨c,rfl⟩,rfl⟩
   rcases HA.out with ⟨h1,h2⟩|⟨k,h1,h2,h3,h4⟩
   ·rw[h1]
    have H2:Hid _:=h2;clear h1 h2
    go_wp2
    go_ret;exact⟨⟨-1,rfl,Or.inl ⟨rfl,by rw[HV.out];exact H2.out⟩⟩,rfl⟩
   ·rw[h1]
    have H4:Hid _:=h4
    have z:((k:Int)==0)=false:=by simp;omega
    clear h1 h4
    go_wp2
    go_round
    case rel=>exact⟨n+k,m+1,h3,by omega,by go_num,by go_num,by rw[HV.out];exact H4.out⟩
    case measure=>simp[intOf];omega
  ·have hI:¬(n:Int)<(s.size:Int):=by omega
   go_wp2
   go_ret;refine⟨⟨m,rfl,Or.inr ⟨by omega,?_⟩⟩,rfl⟩;rw[HV.out,List.drop_eq_nil_of_le (by rw[Array.length_toList];exact Nat.not_lt.1 hlt)];exact validD_nil
end
section
open Go.RowKit Go.PlainAid Go.Lib
theorem zCc{x y:Bool}(h:x=y):Ending.returned (.bool x)=.returned (.bool y):=by rw[h]
def zAD(n:Int):Bool:=decide (-33554432≤n)&&decide (n≤33554432)
def okV(k a b:Int)(s:ByteArray):Bool:=
 if k=0 then(a==0)&&(b==0)&&s.toList.isEmpty
 else if k=1 then((a==0) || (a==1))&&(b==0)&&s.toList.isEmpty
 else if k=2 then(b==0)&&s.toList.isEmpty
 else if k=3 then zAD a&&zAD b&&s.toList.isEmpty
 else if k=4 then(a==0)&&(b==0)&&decide (s.size≤32)&&validD s.data.toList
 else if k=5∨k=6 then(a != 0)&&(b==0)&&s.toList.isEmpty
 else false
theorem zBW(n:Int)(w:World):Calls prog 73 #[.int .i64 n] w fun e w'=>e=.returned (.bool (zAD n))∧w'=w:=by
 unfold zAD
 by_cases h:-33554432≤n
 ·go_enter func73,ntmps73
  go_wp2
  all_goals (go_ret;exact⟨zCc (by simp[*]),rfl⟩)
 ·have h':decide (-33554432≤n)=false:=by simp;omega
  go_enter func73,ntmps73
  go_wp2
  all_goals (go_ret;exact⟨zCc (by simp[*]),rfl⟩)
theorem rv_0(a b:Int)(s:ByteArray)(w:World):CG 26 #[V 0 a b s] w (.bool ((a==0)&&(b==0)&&s.toList.isEmpty)):=by
 go_enter func26,ntmps26
 go_wp2
 all_goals (go_ret;exact⟨zCc (by simp[*]),(G.refl _).alloc _⟩)
theorem rv_1(a b:Int)(s:ByteArray)(w:World):Calls prog 26 #[V 1 a b s] w fun e w'=>e=.returned (.bool (((a==0) || (a==1))&&(b==0)&&s.toList.isEmpty))∧G w w':=by
 go_enter func26,ntmps26
 go_wp2
 all_goals (go_ret;exact⟨zCc (by simp[*]),(G.refl _).alloc _⟩)
theorem rv_2(a b:Int)(s:ByteArray)(w:World):CG 26 #[V 2 a b s] w (.bool ((b==0)&&s.toList.isEmpty)):=by
 go_enter func26,ntmps26
 go_wp2
 all_goals (go_ret;exact⟨zCc (by simp[*]),(G.refl _).alloc _⟩)
theorem rv_5(a b:Int)(s:ByteArray)(w:World):CG 26 #[V 5 a b s] w (.bool ((a != 0)&&(b==0)&&s.toList.isEmpty)):=by
 go_enter func26,ntmps26
 go_wp2
 all_goals (go_ret;exact⟨zCc (by simp[*]),(G.refl _).alloc _⟩)
theorem rv_6(a b:Int)(s:ByteArray)(w:World):CG 26 #[V 6 a b s] w (.bool ((a != 0)&&(b==0)&&s.toList.isEmpty)):=by
 go_enter func26,ntmps26
 go_wp2
 all_goals (go_ret;exact⟨zCc (by simp[*]),(G.refl _).alloc _⟩)
theorem rv_3(a b:Int)(s:ByteArray)(w:World):CG 26 #[V 3 a b s] w (.bool (zAD a&&zAD b&&s.toList.isEmpty)):=by
 have HA:Hid _:=zBW a;have HB:Hid _:=zBW b;generalize zAD a=x at HA⊢;generalize zAD b=y at HB⊢;cases x
 ·go_enter func26,ntmps26
  go_wp2_with fail
  refine(HA.out _).mono ?_;rintro e w1 ⟨rfl,rfl⟩
  go_wp2
  all_goals (go_ret;exact⟨zCc (by simp),(G.refl _).alloc _⟩)
 ·go_enter func26,ntmps26
  go_wp2_with fail
  refine(HA.out _).mono ?_;rintro e w1 ⟨rfl,rfl⟩
  go_wp2_with fail
  refine(HB.out _).mono ?_;rintro e w1 ⟨rfl,rfl⟩;cases y
  all_goals
   go_wp2
   go_ret;exact⟨zCc (by simp),(G.refl _).alloc _⟩
theorem rv_4(a b:Int)(s:ByteArray)(hs:s.size≤4611686018427387904)(w:World):CG 26 #[V 4 a b s] w (.bool ((a==0)&&(b==0)&&decide (s.size≤32)&&validD s.data.toList)):=by
 have HP:Hid _:=zKI s hs;generalize validD s.data.toList=v at HP⊢
 by_cases h:a=0∧b=0∧s.size≤32
 ·obtain⟨h1,h2,h3⟩:=h
  subst h1;subst h2
  have h4:(s.size:Int)≤32:=by omega
  go_enter func26,ntmps26
  go_wp2_with fail
  refine(HP.out _).mono ?_;rintro e w1 ⟨⟨r,rfl,hr⟩,rfl⟩
  rcases hr with ⟨hr,rfl⟩|⟨hr,rfl⟩
  ·subst hr
   go_wp2
   go_ret;exact⟨zCc (by simp),(G.refl _).alloc _⟩
  ·go_wp2
   go_ret;exact⟨zCc (by simp[h3]),(G.refl _).alloc _⟩
 ·have e0:((a==0)&&(b==0)&&decide (s.size≤32)&&v)=false:=by
   cases v
   ·simp
   ·simp;omega
  rw[e0];clear HP e0
  by_cases h1:a=0
  ·by_cases h2:b=0
   ·have h3:¬(s.size:Int)≤32:=by omega
    clear h
    go_enter func26,ntmps26
    go_wp2
    go_ret;exact⟨zCc (by simp),(G.refl _).alloc _⟩
   ·clear h
    go_enter func26,ntmps26
    go_wp2
    go_ret;exact⟨zCc (by simp),(G.refl _).alloc _⟩
  ·clear h
   go_enter func26,ntmps26
   go_wp2
   go_ret;exact⟨zCc (by simp),(G.refl _).alloc _⟩
theorem zXl(k a b:Int)(s:ByteArray)(hk:k<0∨6<k)(w:World):CG 26 #[V k a b s] w (.bool false):=by
 have n0:(k==0)=false:=by simp;omega
 have n1:(k==1)=false:=by simp;omega
 have n2:(k==2)=false:=by simp;omega
 have n3:(k==3)=false:=by simp;omega
 have n4:(k==4)=false:=by simp;omega
 have n5:(k==5)=false:=by simp;omega
 have n6:(k==6)=false:=by simp;omega
 clear hk
 go_enter func26,ntmps26
 go_wp2
 go_ret;exact⟨rfl,(G.refl _).alloc _⟩
theorem zAm(k a b:Int)(s:ByteArray)(hs:s.size≤4611686018427387904)(w:World):CG 26 #[V k a b s] w (.bool (okV k a b s)):=by
 by_cases hk:k<0∨6<k
 ·have e:okV k a b s=false:=by
   unfold okV;rw[if_neg (by omega),if_neg (by omega),if_neg (by omega),if_neg (by omega),if_neg (by omega),if_neg (by omega)]
  rw[e];exact zXl k a b s hk w
 ·have:k=0∨k=1∨k=2∨k=3∨k=4∨k=5∨k=6:=by omega
  rcases this with rfl|rfl|rfl|rfl|rfl|rfl|rfl
  ·exact rv_0 a b s w
  ·exact rv_1 a b s w
  ·exact rv_2 a b s w
  ·exact rv_3 a b s w
  ·exact rv_4 a b s hs w
  ·exact rv_5 a b s w
  ·exact rv_6 a b s w
end
end Go.Proofs.YthmdjhfbhbheeaaGreatDoor
