import Derived.Laws.AppendOwn
import Derived.Maps.AppendAt
import Derived.OwnWalk
import Derived.Laws.IdiomStrings
import Derived.Test.YthmdjhfbhbheeaaGreatDoorRt2
namespace Go.Proofs.YthmdjhfbhbheeaaGreatDoor
open Go.Proofs.Tryz
set_option maxHeartbeats 8000000
set_option maxRecDepth 100000
section
open Go.RowKit Go.Lib Go.Shelf
def isD(c:UInt8):Bool:=decide (48≤c.toNat∧c.toNat≤57)
def cl(x:Int):Int:=if -9223372036854775808≤x∧x≤9223372036854775807 then x else 0
theorem zFx(x:Int):I64 (cl x):=by unfold cl I64;split<;>omega
theorem zGe{x:Int}(h:I64 x):cl x=x:=by unfold cl I64 at *;rw[if_pos h]
def rstp(n:Int)(c:UInt8):Int:=cl (cl (n*10) + -((c.toNat:Int)-48))
theorem zBD(l:List UInt8):∀n,I64 n→I64 (l.foldl rstp n):=by
 induction l with
 | nil=>exact fun n h=>h
 | cons c l ih=>exact fun n _=>ih _ (zFx _)
def sgn(l:List UInt8):Bool×Nat:=match l with|[]=>(false,0)|c::_=>if c.toNat=45 then(true,1)else if c.toNat=43 then(false,1)else(false,0)
def dgs(l:List UInt8):List UInt8:=(l.drop (sgn l).2).takeWhile isD
def dgN(l:List UInt8):Int:=if (sgn l).1 then(dgs l).foldl rstp 0 else cl (-((dgs l).foldl rstp 0))
def dgL(l:List UInt8):Nat:=(sgn l).2+(dgs l).length
theorem zK3(l:List UInt8):R64 (dgN l):=by
 unfold dgN
 split
 ·exact zBD _ 0 (by unfold I64;omega)
 ·exact zFx _
theorem zLl{p:UInt8→Bool}:∀(l:List UInt8) (k:Nat),k<(l.takeWhile p).length→∃c,l[k]?=some c∧p c=true∧(l.takeWhile p)[k]?=some c
 | [],k,h=>by simp at h
 | c::l,k,h=>by
  cases hp:p c with
  | false=>rw[List.takeWhile_cons,hp] at h;simp at h
  | true=>
   rw[List.takeWhile_cons,hp] at h⊢
   cases k with
   | zero=>exact⟨c,rfl,hp,rfl⟩
   | succ k=>
    obtain⟨d,h1,h2,h3⟩:=zLl l k (by simp at h;exact h);exact⟨d,by simpa using h1,h2,by simpa using h3⟩
theorem zGu{p:UInt8→Bool}:∀(l:List UInt8) (c:UInt8),l[(l.takeWhile p).length]?=some c→p c=false
 | [],c,h=>by simp at h
 | d::l,c,h=>by
  cases hp:p d with
  | false=>rw[List.takeWhile_cons,hp] at h;simp at h;rw[←h];exact hp
  | true=>
   rw[List.takeWhile_cons,hp] at h;exact zGu l c (by simpa using h)
theorem zE8{p:UInt8→Bool}:∀(l:List UInt8),(l.takeWhile p).length≤l.length
 | []=>by simp
 | d::l=>by
  have:=zE8 (p:=p) l;rw[List.takeWhile_cons]
  split
  ·simp;omega
  ·simp
theorem zIy{p:UInt8→Bool}:∀(l r:List UInt8),(∀c∈l,p c=true)→(∀c t,r=c::t→p c=false)→(l++r).takeWhile p=l
 | [],r,_,hr=>by
  cases r with
  | nil=>rfl
  | cons c t=>rw[List.nil_append,List.takeWhile_cons,hr c t rfl];rfl
 | c::l,r,hl,hr=>by
  rw[List.cons_append,List.takeWhile_cons,hl c (by simp)];simp only[if_true];rw[zIy l r (fun d hd=>hl d (by simp[hd])) hr]
theorem zF3(u:Nat)(hu:u≤9223372036854775808):(decDigits u).foldl rstp 0 = -(u:Int):=by
 induction u using Nat.strongRecOn with
 | _ u ih=>
  rw[decDigits]
  by_cases h:u<10
  ·rw[dif_pos h]
   simp only[List.foldl_cons,List.foldl_nil,rstp];rw[zDi u h,Int.zero_mul,zGe (x:=0) (by unfold I64;omega),zGe (by unfold I64;omega)];omega
  ·rw[dif_neg h,List.foldl_append,ih (u/10) (by omega) (by omega)]
   simp only[List.foldl_cons,List.foldl_nil,rstp];rw[zDi _ (by omega),zGe (x:=-((u/10:Nat):Int)*10) (by unfold I64;omega),zGe (by unfold I64;omega)];omega
theorem zId(u:Nat):∀c∈decDigits u,isD c=true:=fun c hc=>by
 have:=zA7 u c hc;simp[isD,this]
theorem zWK(u:Nat)(r:List UInt8)(hr:∀c t,r=c::t→isD c=false):sgn (decDigits u++r)=(false,0)∧dgs (decDigits u++r)=decDigits u:=by
 have hs:sgn (decDigits u++r)=(false,0):=by
  cases h:decDigits u with
  | nil=>exact absurd h (zF7 u)
  | cons c t=>
   have:=zA7 u c (by rw[h];simp);simp only[List.cons_append,sgn];rw[if_neg (by omega),if_neg (by omega)]
 refine⟨hs,?_⟩;unfold dgs;rw[hs];exact zIy _ _ (zId u) hr
theorem zDR(m:Int)(hm:R64 m)(r:List UInt8)(hr:∀c t,r=c::t→isD c=false):dgN (itoa m++r)=m∧dgL (itoa m++r)=(itoa m).length:=by
 unfold R64 at hm;unfold itoa
 by_cases h:m<0
 ·rw[if_pos h]
  have hs:sgn (45::decDigits m.natAbs++r)=(true,1):=rfl
  have hd:dgs (45::decDigits m.natAbs++r)=decDigits m.natAbs:=by
   unfold dgs;rw[hs];exact zIy _ _ (zId _) hr
  unfold dgN dgL;rw[hs,hd,zF3 _ (by omega)];refine⟨?_,by simp;omega⟩;simp only[if_true];omega
 ·rw[if_neg h]
  obtain⟨hs,hd⟩:=zWK m.toNat r hr;unfold dgN dgL;rw[hs,hd,zF3 _ (by omega)];refine⟨?_,by simp⟩;simp only[Bool.false_eq_true,if_false];rw[zGe (by unfold I64;omega)];omega
theorem zT2(m:Int)(hm:R64 m)(h0:¬m<0)(r:List UInt8)(hr:∀c t,r=c::t→isD c=false):dgN (43::itoa m++r)=m:=by
 unfold R64 at hm;unfold itoa;rw[if_neg h0];have hs:sgn (43::decDigits m.toNat++r)=(false,1):=rfl
 have hd:dgs (43::decDigits m.toNat++r)=decDigits m.toNat:=by
  unfold dgs;rw[hs];exact zIy _ _ (zId _) hr
 unfold dgN;rw[hs,hd,zF3 _ (by omega)];simp only[Bool.false_eq_true,if_false];rw[zGe (by unfold I64;omega)];omega
theorem zIJ(a b:Int)(ha:I64 a)(hb:I64 b)(w:World):Calls prog 79 #[.int .i64 a,.int .i64 b] w fun e w'=>(∃x:Bool,e=.returned (.tuple #[.int .i64 (cl (a*b)),.bool x]))∧w'=w:=by
 refine(zCy a b ha hb w).mono ?_;rintro e w' ⟨h|h,rfl⟩
 ·exact⟨⟨true,by rw[zGe h.1];exact h.2⟩,rfl⟩
 ·exact⟨⟨false,by rw[show cl (a*b)=0 from if_neg h.1];exact h.2⟩,rfl⟩
theorem zOD(a b:Int)(ha:I64 a)(hb:I64 b)(w:World):Calls prog 113 #[.int .i64 a,.int .i64 b] w fun e w'=>(∃x:Bool,e=.returned (.tuple #[.int .i64 (cl (a+b)),.bool x]))∧w'=w:=by
 by_cases h:I64 (a+b)
 ·rw[zGe h]
  exact(zCX a b ha hb h w).mono fun e w' ⟨h1,h2⟩=>⟨⟨true,h1⟩,h2⟩
 ·rw[show cl (a+b)=0 from if_neg h]
  exact(zDH a b ha hb h w).mono fun e w' ⟨h1,h2⟩=>⟨⟨false,h1⟩,h2⟩
theorem zCb(a:Int)(ha:I64 a)(w:World):Calls prog 78 #[.int .i64 a] w fun e w'=>(∃x:Bool,e=.returned (.tuple #[.int .i64 (cl (-a)),.bool x]))∧w'=w:=by
 unfold I64 at ha
 by_cases h:a = -9223372036854775808
 ·subst h
  exact(zB6 w).mono fun e w' ⟨h1,h2⟩=>⟨⟨false,h1⟩,h2⟩
 ·rw[zGe (by unfold I64;omega)]
  exact(zBJ a (by omega) ha.2 w).mono fun e w' ⟨h1,h2⟩=>⟨⟨true,h1⟩,h2⟩
theorem zDb(u:ByteArray)(k:Nat)(hk:k<u.size):u.data.toList[k]?=some u[k]:=by simp[ByteArray.getElem_eq_getElem_data,hk]
theorem zIu{u:ByteArray}{k:Nat}{c:UInt8}(h:u.data.toList[k]?=some c):∃hk:k<u.size,u[k]=c:=by
 obtain⟨h1,h2⟩:=List.getElem?_eq_some_iff.1 h
 have hk:k<u.size:=by rw[Array.length_toList] at h1;exact h1
 exact⟨hk,by have:=zDb u k hk;rw[h] at this;exact(Option.some.inj this).symm⟩
theorem zL5(u:ByteArray)(_hs:u.size≤4611686018427387904)(i:Nat)(hi:i=u.size)(w:World):Calls prog 137 #[.string u,.int .i64 i] w fun e w'=>e=.returned (.tuple #[.int .i64 (dgN (u.data.toList.drop i)),.int .i64 ((i+dgL (u.data.toList.drop i):Nat):Int)])∧w'=w:=by
 have hsg:sgn (u.data.toList.drop i)=(false,0):=by rw[List.drop_of_length_le (by rw[Array.length_toList,hi];exact Nat.le_refl _)];rfl
 have hiI:¬(i:Int)<(u.size:Int):=by omega
 have hll:u.data.toList.length=u.size:=by rw[Array.length_toList];rfl
 obtain⟨ds,hds⟩:∃ds,ds=(u.data.toList.drop (i+0)).takeWhile isD:=⟨_,rfl⟩
 have HRES:Hid (.tuple #[.int .i64 (dgN (u.data.toList.drop i)),.int .i64 ((i+dgL (u.data.toList.drop i):Nat):Int)]=Value.tuple #[.int .i64 (cl (-(ds.foldl rstp 0))),.int .i64 ((i+0+ds.length:Nat):Int)]):=by
  unfold Hid dgN dgL dgs;rw[hsg];simp only[List.drop_drop];rw[←hds];simp
 have hdl:i+0+ds.length≤u.size:=by
  have:=zE8 (p:=isD) (u.data.toList.drop (i+0));rw[←hds,List.length_drop,hll] at this;omega
 have HLT:Hid (∀k,k<ds.length→∃c,u.data.toList[i+0+k]?=some c∧isD c=true∧ds[k]?=some c):=fun k hk=>by
  obtain⟨c,h1,h2,h3⟩:=zLl (p:=isD) (u.data.toList.drop (i+0)) k (by rw[←hds];exact hk);rw[List.getElem?_drop] at h1;exact⟨c,h1,h2,by rw[hds];exact h3⟩
 have HEN:Hid (∀c,u.data.toList[i+0+ds.length]?=some c→isD c=false):=fun c hc=>by
  refine zGu (p:=isD) (u.data.toList.drop (i+0)) c ?_;rw[←hds,List.getElem?_drop];exact hc
 clear hds hsg
 go_enter func137,ntmps137
 go_wp2_with fail
 go_loopw [1,7,8,9] (fun p n _ _ W=>∃k:Nat,k≤ds.length∧p=.int .i64 ((i+0+k:Nat):Int)∧n=.int .i64 ((ds.take k).foldl rstp 0)∧W=w) (fun p _ _ _ _=>u.size-(RowKit.intOf p).toNat)
 case atStart=>exact⟨0,by omega,by first|rfl|(simp;done)|go_num,rfl,rfl⟩
 case round=>
  obtain⟨k,hk,rfl,rfl,rfl⟩:=hrel
  by_cases hlt:k<ds.length
  ·obtain⟨c,h1,h2,h3⟩:=HLT.out k hlt
   obtain⟨hps,hpc⟩:=zIu h1
   have hcd:48≤c.toNat∧c.toNat≤57:=by simpa [isD] using h2
   obtain⟨p,hp⟩:∃p,p=i+0+k:=⟨_,rfl⟩;have HP:=hide hp;rw[←hp] at h1⊢;simp only[←hp] at hps hpc
   have hpI:(p:Int)<(u.size:Int):=by omega
   have htk:(ds.take (k+1)).foldl rstp 0=rstp ((ds.take k).foldl rstp 0) c:=by
    obtain⟨g1,g2⟩:=List.getElem?_eq_some_iff.1 h3;rw[List.take_succ_eq_append_getElem g1,g2,List.foldl_append];rfl
   have HTK:=hide htk;have HI:Hid (I64 ((ds.take k).foldl rstp 0)):=zBD _ 0 (by unfold I64;omega);generalize (ds.take k).foldl rstp 0=N at HTK HI htk⊢
   have hcu:u[p].toNat=c.toNat:=by rw[hpc]
   have HZ:Hid ((c.toNat:Int)=(u[p].toNat:Int)):=hide (by rw[hcu])
   have hz1:48≤u[p].toNat:=by omega
   have hz2:u[p].toNat≤57:=by omega
   have hz3:(48:Int)≤(u[p].toNat:Int):=by omega
   have hz4:(u[p].toNat:Int)≤57:=by omega
   clear htk h1 h2 h3 hcd hp hpc hcu
   go_wp2_with fail
   refine(zIJ N 10 HI.out (by unfold I64;omega) _).mono ?_;rintro e' w2 ⟨⟨x2,rfl⟩,rfl⟩;have HSU:=hide (zOD (cl (N*10)) (-((u[p].toNat:Int)-48)) (zFx _) (by unfold I64;omega) w2)
   go_wp2_with fail
   refine HSU.out.mono ?_;rintro e' w3 ⟨⟨x3,rfl⟩,rfl⟩
   go_wp2
   go_roundw
   case rel=>exact⟨k+1,by omega,by rw[show i+0+(k+1)=p+1 from by rw[HP.out];omega];go_num,by rw[HTK.out];unfold rstp;rw[HZ.out],by first|trivial|rfl⟩
   case measure=>simp[RowKit.intOf];omega
  ·obtain rfl:k=ds.length:=by omega
   rw[List.take_length];obtain⟨p,hp⟩:∃p,p=i+0+ds.length:=⟨_,rfl⟩;have HP:=hide hp;have HEN':=HEN.out;rw[←hp] at HRES HEN' hdl⊢;have HE2:=hide HEN';clear HEN' HEN HLT hp;have HI:Hid (I64 (ds.foldl rstp 0)):=zBD _ 0 (by unfold I64;omega);generalize ds.foldl rstp 0=N at HI HRES⊢
   by_cases hpe:p=u.size
   ·subst hpe
    go_wp2_with fail
    refine(zCb N HI.out _).mono ?_;rintro e' w2 ⟨⟨x2,rfl⟩,rfl⟩
    go_wp2
    go_ret2
    exact⟨congrArg Ending.returned HRES.out.symm,rfl⟩
   ·have hps:p<u.size:=by omega
    have hpI:(p:Int)<(u.size:Int):=by omega
    have hnd:=HE2.out u[p] (zDb u p hps)
    by_cases hlo:u[p].toNat<48
    ·have hlo2:¬(48:Int)≤(u[p].toNat:Int):=by omega
     go_wp2_with fail
     refine(zCb N HI.out _).mono ?_;rintro e' w2 ⟨⟨x2,rfl⟩,rfl⟩
     go_wp2
     go_ret2
     exact⟨congrArg Ending.returned HRES.out.symm,rfl⟩
    ·have hlo1:(48:Int)≤(u[p].toNat:Int):=by omega
     have hhi:¬(u[p].toNat:Int)≤57:=by
      have:¬(48≤u[p].toNat∧u[p].toNat≤57):=by simpa [isD] using hnd
      omega
     go_wp2_with fail
     refine(zCb N HI.out _).mono ?_;rintro e' w2 ⟨⟨x2,rfl⟩,rfl⟩
     go_wp2
     go_ret2
     exact⟨congrArg Ending.returned HRES.out.symm,rfl⟩
theorem zOT(u:ByteArray)(hs:u.size≤4611686018427387904)(i:Nat)(hi:i<u.size)(hc:u[i].toNat=45)(w:World):Calls prog 137 #[.string u,.int .i64 i] w fun e w'=>e=.returned (.tuple #[.int .i64 (dgN (u.data.toList.drop i)),.int .i64 ((i+dgL (u.data.toList.drop i):Nat):Int)])∧w'=w:=by
 have hsg:sgn (u.data.toList.drop i)=(true,1):=by rw[List.drop_eq_getElem_cons (by rw[Array.length_toList];exact hi)];have e:u.data.toList[i]'(by rw[Array.length_toList];exact hi)=u[i]:=(Option.some.inj ((List.getElem?_eq_getElem (by rw[Array.length_toList];exact hi)).symm.trans (zDb u i hi)));rw[e];unfold sgn;simp[hc]
 have hiI:(i:Int)<(u.size:Int):=by omega
 have hcI:(u[i].toNat:Int)=45:=by omega
 have hll:u.data.toList.length=u.size:=by rw[Array.length_toList];rfl
 obtain⟨ds,hds⟩:∃ds,ds=(u.data.toList.drop (i+1)).takeWhile isD:=⟨_,rfl⟩
 have HRES:Hid (.tuple #[.int .i64 (dgN (u.data.toList.drop i)),.int .i64 ((i+dgL (u.data.toList.drop i):Nat):Int)]=Value.tuple #[.int .i64 (ds.foldl rstp 0),.int .i64 ((i+1+ds.length:Nat):Int)]):=by
  unfold Hid dgN dgL dgs;rw[hsg];simp only[List.drop_drop];rw[←hds];simp[Nat.add_assoc]
 have hdl:i+1+ds.length≤u.size:=by
  have:=zE8 (p:=isD) (u.data.toList.drop (i+1));rw[←hds,List.length_drop,hll] at this;omega
 have HLT:Hid (∀k,k<ds.length→∃c,u.data.toList[i+1+k]?=some c∧isD c=true∧ds[k]?=some c):=fun k hk=>by
  obtain⟨c,h1,h2,h3⟩:=zLl (p:=isD) (u.data.toList.drop (i+1)) k (by rw[←hds];exact hk);rw[List.getElem?_drop] at h1;exact⟨c,h1,h2,by rw[hds];exact h3⟩
 have HEN:Hid (∀c,u.data.toList[i+1+ds.length]?=some c→isD c=false):=fun c hc=>by
  refine zGu (p:=isD) (u.data.toList.drop (i+1)) c ?_;rw[←hds,List.getElem?_drop];exact hc
 clear hds hsg
 go_enter func137,ntmps137
 go_wp2_with fail
 go_loopw [1,7,8,9] (fun p n _ _ W=>∃k:Nat,k≤ds.length∧p=.int .i64 ((i+1+k:Nat):Int)∧n=.int .i64 ((ds.take k).foldl rstp 0)∧W=w) (fun p _ _ _ _=>u.size-(RowKit.intOf p).toNat)
 case atStart=>exact⟨0,by omega,by first|rfl|(simp;done)|go_num,rfl,rfl⟩
 case round=>
  obtain⟨k,hk,rfl,rfl,rfl⟩:=hrel
  by_cases hlt:k<ds.length
  ·obtain⟨c,h1,h2,h3⟩:=HLT.out k hlt
   obtain⟨hps,hpc⟩:=zIu h1
   have hcd:48≤c.toNat∧c.toNat≤57:=by simpa [isD] using h2
   obtain⟨p,hp⟩:∃p,p=i+1+k:=⟨_,rfl⟩;have HP:=hide hp;rw[←hp] at h1⊢;simp only[←hp] at hps hpc
   have hpI:(p:Int)<(u.size:Int):=by omega
   have htk:(ds.take (k+1)).foldl rstp 0=rstp ((ds.take k).foldl rstp 0) c:=by
    obtain⟨g1,g2⟩:=List.getElem?_eq_some_iff.1 h3;rw[List.take_succ_eq_append_getElem g1,g2,List.foldl_append];rfl
   have HTK:=hide htk;have HI:Hid (I64 ((ds.take k).foldl rstp 0)):=zBD _ 0 (by unfold I64;omega);generalize (ds.take k).foldl rstp 0=N at HTK HI htk⊢
   have hcu:u[p].toNat=c.toNat:=by rw[hpc]
   have HZ:Hid ((c.toNat:Int)=(u[p].toNat:Int)):=hide (by rw[hcu])
   have hz1:48≤u[p].toNat:=by omega
   have hz2:u[p].toNat≤57:=by omega
   have hz3:(48:Int)≤(u[p].toNat:Int):=by omega
   have hz4:(u[p].toNat:Int)≤57:=by omega
   clear htk h1 h2 h3 hcd hp hpc hcu
   go_wp2_with fail
   refine(zIJ N 10 HI.out (by unfold I64;omega) _).mono ?_;rintro e' w2 ⟨⟨x2,rfl⟩,rfl⟩;have HSU:=hide (zOD (cl (N*10)) (-((u[p].toNat:Int)-48)) (zFx _) (by unfold I64;omega) w2)
   go_wp2_with fail
   refine HSU.out.mono ?_;rintro e' w3 ⟨⟨x3,rfl⟩,rfl⟩
   go_wp2
   go_roundw
   case rel=>exact⟨k+1,by omega,by rw[show i+1+(k+1)=p+1 from by rw[HP.out];omega];go_num,by rw[HTK.out];unfold rstp;rw[HZ.out],by first|trivial|rfl⟩
   case measure=>simp[RowKit.intOf];omega
  ·obtain rfl:k=ds.length:=by omega
   rw[List.take_length];obtain⟨p,hp⟩:∃p,p=i+1+ds.length:=⟨_,rfl⟩;have HP:=hide hp;have HEN':=HEN.out;rw[←hp] at HRES HEN' hdl⊢;have HE2:=hide HEN';clear HEN' HEN HLT hp;have HI:Hid (I64 (ds.foldl rstp 0)):=zBD _ 0 (by unfold I64;omega);generalize ds.foldl rstp 0=N at HI HRES⊢
   by_cases hpe:p=u.size
   ·subst hpe
    go_wp2
    go_ret2
    exact⟨congrArg Ending.returned HRES.out.symm,rfl⟩
   ·have hps:p<u.size:=by omega
    have hpI:(p:Int)<(u.size:Int):=by omega
    have hnd:=HE2.out u[p] (zDb u p hps)
    by_cases hlo:u[p].toNat<48
    ·have hlo2:¬(48:Int)≤(u[p].toNat:Int):=by omega
     go_wp2
     go_ret2
     exact⟨congrArg Ending.returned HRES.out.symm,rfl⟩
    ·have hlo1:(48:Int)≤(u[p].toNat:Int):=by omega
     have hhi:¬(u[p].toNat:Int)≤57:=by
      have:¬(48≤u[p].toNat∧u[p].toNat≤57):=by simpa [isD] using hnd
      omega
     go_wp2
     go_ret2
     exact⟨congrArg Ending.returned HRES.out.symm,rfl⟩
theorem zOR(u:ByteArray)(hs:u.size≤4611686018427387904)(i:Nat)(hi:i<u.size)(hc:u[i].toNat=43)(w:World):Calls prog 137 #[.string u,.int .i64 i] w fun e w'=>e=.returned (.tuple #[.int .i64 (dgN (u.data.toList.drop i)),.int .i64 ((i+dgL (u.data.toList.drop i):Nat):Int)])∧w'=w:=by
 have hsg:sgn (u.data.toList.drop i)=(false,1):=by rw[List.drop_eq_getElem_cons (by rw[Array.length_toList];exact hi)];have e:u.data.toList[i]'(by rw[Array.length_toList];exact hi)=u[i]:=(Option.some.inj ((List.getElem?_eq_getElem (by rw[Array.length_toList];exact hi)).symm.trans (zDb u i hi)));rw[e];unfold sgn;simp[hc]
 have hiI:(i:Int)<(u.size:Int):=by omega
 have hcI:(u[i].toNat:Int)=43:=by omega
 have hll:u.data.toList.length=u.size:=by rw[Array.length_toList];rfl
 obtain⟨ds,hds⟩:∃ds,ds=(u.data.toList.drop (i+1)).takeWhile isD:=⟨_,rfl⟩
 have HRES:Hid (.tuple #[.int .i64 (dgN (u.data.toList.drop i)),.int .i64 ((i+dgL (u.data.toList.drop i):Nat):Int)]=Value.tuple #[.int .i64 (cl (-(ds.foldl rstp 0))),.int .i64 ((i+1+ds.length:Nat):Int)]):=by
  unfold Hid dgN dgL dgs;rw[hsg];simp only[List.drop_drop];rw[←hds];simp[Nat.add_assoc]
 have hdl:i+1+ds.length≤u.size:=by
  have:=zE8 (p:=isD) (u.data.toList.drop (i+1));rw[←hds,List.length_drop,hll] at this;omega
 have HLT:Hid (∀k,k<ds.length→∃c,u.data.toList[i+1+k]?=some c∧isD c=true∧ds[k]?=some c):=fun k hk=>by
  obtain⟨c,h1,h2,h3⟩:=zLl (p:=isD) (u.data.toList.drop (i+1)) k (by rw[←hds];exact hk);rw[List.getElem?_drop] at h1;exact⟨c,h1,h2,by rw[hds];exact h3⟩
 have HEN:Hid (∀c,u.data.toList[i+1+ds.length]?=some c→isD c=false):=fun c hc=>by
  refine zGu (p:=isD) (u.data.toList.drop (i+1)) c ?_;rw[←hds,List.getElem?_drop];exact hc
 clear hds hsg
 go_enter func137,ntmps137
 go_wp2_with fail
 go_loopw [1,7,8,9] (fun p n _ _ W=>∃k:Nat,k≤ds.length∧p=.int .i64 ((i+1+k:Nat):Int)∧n=.int .i64 ((ds.take k).foldl rstp 0)∧W=w) (fun p _ _ _ _=>u.size-(RowKit.intOf p).toNat)
 case atStart=>exact⟨0,by omega,by first|rfl|(simp;done)|go_num,rfl,rfl⟩
 case round=>
  obtain⟨k,hk,rfl,rfl,rfl⟩:=hrel
  by_cases hlt:k<ds.length
  ·obtain⟨c,h1,h2,h3⟩:=HLT.out k hlt
   obtain⟨hps,hpc⟩:=zIu h1
   have hcd:48≤c.toNat∧c.toNat≤57:=by simpa [isD] using h2
   obtain⟨p,hp⟩:∃p,p=i+1+k:=⟨_,rfl⟩;have HP:=hide hp;rw[←hp] at h1⊢;simp only[←hp] at hps hpc
   have hpI:(p:Int)<(u.size:Int):=by omega
   have htk:(ds.take (k+1)).foldl rstp 0=rstp ((ds.take k).foldl rstp 0) c:=by
    obtain⟨g1,g2⟩:=List.getElem?_eq_some_iff.1 h3;rw[List.take_succ_eq_append_getElem g1,g2,List.foldl_append];rfl
   have HTK:=hide htk;have HI:Hid (I64 ((ds.take k).foldl rstp 0)):=zBD _ 0 (by unfold I64;omega);generalize (ds.take k).foldl rstp 0=N at HTK HI htk⊢
   have hcu:u[p].toNat=c.toNat:=by rw[hpc]
   have HZ:Hid ((c.toNat:Int)=(u[p].toNat:Int)):=hide (by rw[hcu])
   have hz1:48≤u[p].toNat:=by omega
   have hz2:u[p].toNat≤57:=by omega
   have hz3:(48:Int)≤(u[p].toNat:Int):=by omega
   have hz4:(u[p].toNat:Int)≤57:=by omega
   clear htk h1 h2 h3 hcd hp hpc hcu
   go_wp2_with fail
   refine(zIJ N 10 HI.out (by unfold I64;omega) _).mono ?_;rintro e' w2 ⟨⟨x2,rfl⟩,rfl⟩;have HSU:=hide (zOD (cl (N*10)) (-((u[p].toNat:Int)-48)) (zFx _) (by unfold I64;omega) w2)
   go_wp2_with fail
   refine HSU.out.mono ?_;rintro e' w3 ⟨⟨x3,rfl⟩,rfl⟩
   go_wp2
   go_roundw
   case rel=>exact⟨k+1,by omega,by rw[show i+1+(k+1)=p+1 from by rw[HP.out];omega];go_num,by rw[HTK.out];unfold rstp;rw[HZ.out],by first|trivial|rfl⟩
   case measure=>simp[RowKit.intOf];omega
  ·obtain rfl:k=ds.length:=by omega
   rw[List.take_length];obtain⟨p,hp⟩:∃p,p=i+1+ds.length:=⟨_,rfl⟩;have HP:=hide hp;have HEN':=HEN.out;rw[←hp] at HRES HEN' hdl⊢;have HE2:=hide HEN';clear HEN' HEN HLT hp;have HI:Hid (I64 (ds.foldl rstp 0)):=zBD _ 0 (by unfold I64;omega);generalize ds.foldl rstp 0=N at HI HRES⊢
   by_cases hpe:p=u.size
   ·subst hpe
    go_wp2_with fail
    refine(zCb N HI.out _).mono ?_;rintro e' w2 ⟨⟨x2,rfl⟩,rfl⟩
    go_wp2
    go_ret2
    exact⟨congrArg Ending.returned HRES.out.symm,rfl⟩
   ·have hps:p<u.size:=by omega
    have hpI:(p:Int)<(u.size:Int):=by omega
    have hnd:=HE2.out u[p] (zDb u p hps)
    by_cases hlo:u[p].toNat<48
    ·have hlo2:¬(48:Int)≤(u[p].toNat:Int):=by omega
     go_wp2_with fail
     refine(zCb N HI.out _).mono ?_;rintro e' w2 ⟨⟨x2,rfl⟩,rfl⟩
     go_wp2
     go_ret2
     exact⟨congrArg Ending.returned HRES.out.symm,rfl⟩
    ·have hlo1:(48:Int)≤(u[p].toNat:Int):=by omega
     have hhi:¬(u[p].toNat:Int)≤57:=by
      have:¬(48≤u[p].toNat∧u[p].toNat≤57):=by simpa [isD] using hnd
      omega
     go_wp2_with fail
     refine(zCb N HI.out _).mono ?_;rintro e' w2 ⟨⟨x2,rfl⟩,rfl⟩
     go_wp2
     go_ret2
     exact⟨congrArg Ending.returned HRES.out.symm,rfl⟩
theorem zOS(u:ByteArray)(hs:u.size≤4611686018427387904)(i:Nat)(hi:i<u.size)(hc:¬u[i].toNat=45)(hd:¬u[i].toNat=43)(w:World):Calls prog 137 #[.string u,.int .i64 i] w fun e w'=>e=.returned (.tuple #[.int .i64 (dgN (u.data.toList.drop i)),.int .i64 ((i+dgL (u.data.toList.drop i):Nat):Int)])∧w'=w:=by
 have hsg:sgn (u.data.toList.drop i)=(false,0):=by rw[List.drop_eq_getElem_cons (by rw[Array.length_toList];exact hi)];have e:u.data.toList[i]'(by rw[Array.length_toList];exact hi)=u[i]:=(Option.some.inj ((List.getElem?_eq_getElem (by rw[Array.length_toList];exact hi)).symm.trans (zDb u i hi)));rw[e];unfold sgn;simp[hc,hd]
 have hiI:(i:Int)<(u.size:Int):=by omega
 have hcI:((u[i].toNat:Int)==45)=false:=beq_false_of_ne (by omega);have hcJ:((u[i].toNat:Int)==43)=false:=beq_false_of_ne (by omega)
 have hll:u.data.toList.length=u.size:=by rw[Array.length_toList];rfl
 obtain⟨ds,hds⟩:∃ds,ds=(u.data.toList.drop (i+0)).takeWhile isD:=⟨_,rfl⟩
 have HRES:Hid (.tuple #[.int .i64 (dgN (u.data.toList.drop i)),.int .i64 ((i+dgL (u.data.toList.drop i):Nat):Int)]=Value.tuple #[.int .i64 (cl (-(ds.foldl rstp 0))),.int .i64 ((i+0+ds.length:Nat):Int)]):=by
  unfold Hid dgN dgL dgs;rw[hsg];simp only[List.drop_drop];rw[←hds];simp
 have hdl:i+0+ds.length≤u.size:=by
  have:=zE8 (p:=isD) (u.data.toList.drop (i+0));rw[←hds,List.length_drop,hll] at this;omega
 have HLT:Hid (∀k,k<ds.length→∃c,u.data.toList[i+0+k]?=some c∧isD c=true∧ds[k]?=some c):=fun k hk=>by
  obtain⟨c,h1,h2,h3⟩:=zLl (p:=isD) (u.data.toList.drop (i+0)) k (by rw[←hds];exact hk);rw[List.getElem?_drop] at h1;exact⟨c,h1,h2,by rw[hds];exact h3⟩
 have HEN:Hid (∀c,u.data.toList[i+0+ds.length]?=some c→isD c=false):=fun c hc=>by
  refine zGu (p:=isD) (u.data.toList.drop (i+0)) c ?_;rw[←hds,List.getElem?_drop];exact hc
 clear hds hsg
 go_enter func137,ntmps137
 go_wp2_with fail
 go_loopw [1,7,8,9] (fun p n _ _ W=>∃k:Nat,k≤ds.length∧p=.int .i64 ((i+0+k:Nat):Int)∧n=.int .i64 ((ds.take k).foldl rstp 0)∧W=w) (fun p _ _ _ _=>u.size-(RowKit.intOf p).toNat)
 case atStart=>exact⟨0,by omega,by first|rfl|(simp;done)|go_num,rfl,rfl⟩
 case round=>
  obtain⟨k,hk,rfl,rfl,rfl⟩:=hrel
  by_cases hlt:k<ds.length
  ·obtain⟨c,h1,h2,h3⟩:=HLT.out k hlt
   obtain⟨hps,hpc⟩:=zIu h1
   have hcd:48≤c.toNat∧c.toNat≤57:=by simpa [isD] using h2
   obtain⟨p,hp⟩:∃p,p=i+0+k:=⟨_,rfl⟩;have HP:=hide hp;rw[←hp] at h1⊢;simp only[←hp] at hps hpc
   have hpI:(p:Int)<(u.size:Int):=by omega
   have htk:(ds.take (k+1)).foldl rstp 0=rstp ((ds.take k).foldl rstp 0) c:=by
    obtain⟨g1,g2⟩:=List.getElem?_eq_some_iff.1 h3;rw[List.take_succ_eq_append_getElem g1,g2,List.foldl_append];rfl
   have HTK:=hide htk;have HI:Hid (I64 ((ds.take k).foldl rstp 0)):=zBD _ 0 (by unfold I64;omega);generalize (ds.take k).foldl rstp 0=N at HTK HI htk⊢
   have hcu:u[p].toNat=c.toNat:=by rw[hpc]
   have HZ:Hid ((c.toNat:Int)=(u[p].toNat:Int)):=hide (by rw[hcu])
   have hz1:48≤u[p].toNat:=by omega
   have hz2:u[p].toNat≤57:=by omega
   have hz3:(48:Int)≤(u[p].toNat:Int):=by omega
   have hz4:(u[p].toNat:Int)≤57:=by omega
   clear htk h1 h2 h3 hcd hp hpc hcu
   go_wp2_with fail
   refine(zIJ N 10 HI.out (by unfold I64;omega) _).mono ?_;rintro e' w2 ⟨⟨x2,rfl⟩,rfl⟩;have HSU:=hide (zOD (cl (N*10)) (-((u[p].toNat:Int)-48)) (zFx _) (by unfold I64;omega) w2)
   go_wp2_with fail
   refine HSU.out.mono ?_;rintro e' w3 ⟨⟨x3,rfl⟩,rfl⟩
   go_wp2
   go_roundw
   case rel=>exact⟨k+1,by omega,by rw[show i+0+(k+1)=p+1 from by rw[HP.out];omega];go_num,by rw[HTK.out];unfold rstp;rw[HZ.out],by first|trivial|rfl⟩
   case measure=>simp[RowKit.intOf];omega
  ·obtain rfl:k=ds.length:=by omega
   rw[List.take_length];obtain⟨p,hp⟩:∃p,p=i+0+ds.length:=⟨_,rfl⟩;have HP:=hide hp;have HEN':=HEN.out;rw[←hp] at HRES HEN' hdl⊢;have HE2:=hide HEN';clear HEN' HEN HLT hp;have HI:Hid (I64 (ds.foldl rstp 0)):=zBD _ 0 (by unfold I64;omega);generalize ds.foldl rstp 0=N at HI HRES⊢
   by_cases hpe:p=u.size
   ·subst hpe
    go_wp2_with fail
    refine(zCb N HI.out _).mono ?_;rintro e' w2 ⟨⟨x2,rfl⟩,rfl⟩
    go_wp2
    go_ret2
    exact⟨congrArg Ending.returned HRES.out.symm,rfl⟩
   ·have hps:p<u.size:=by omega
    have hpI:(p:Int)<(u.size:Int):=by omega
    have hnd:=HE2.out u[p] (zDb u p hps)
    by_cases hlo:u[p].toNat<48
    ·have hlo2:¬(48:Int)≤(u[p].toNat:Int):=by omega
     go_wp2_with fail
     refine(zCb N HI.out _).mono ?_;rintro e' w2 ⟨⟨x2,rfl⟩,rfl⟩
     go_wp2
     go_ret2
     exact⟨congrArg Ending.returned HRES.out.symm,rfl⟩
    ·have hlo1:(48:Int)≤(u[p].toNat:Int):=by omega
     have hhi:¬(u[p].toNat:Int)≤57:=by
      have:¬(48≤u[p].toNat∧u[p].toNat≤57):=by simpa [isD] using hnd
      omega
     go_wp2_with fail
     refine(zCb N HI.out _).mono ?_;rintro e' w2 ⟨⟨x2,rfl⟩,rfl⟩
     go_wp2
     go_ret2
     exact⟨congrArg Ending.returned HRES.out.symm,rfl⟩
theorem zCZ(u:ByteArray)(hs:u.size≤4611686018427387904)(i:Nat)(hi:i≤u.size)(w:World):Calls prog 137 #[.string u,.int .i64 i] w fun e w'=>e=.returned (.tuple #[.int .i64 (dgN (u.data.toList.drop i)),.int .i64 ((i+dgL (u.data.toList.drop i):Nat):Int)])∧w'=w:=by
 by_cases h0:i=u.size
 ·exact zL5 u hs i h0 w
 ·have h1:i<u.size:=by omega
  by_cases h2:u[i].toNat=45
  ·exact zOT u hs i h1 h2 w
  ·by_cases h3:u[i].toNat=43
   ·exact zOR u hs i h1 h3 w
   ·exact zOS u hs i h1 h2 h3 w
end
section
open Go.Lib
theorem zTT:∀x y:Fin 256,(esc1 (UInt8.ofNat x.val)).isPrefixOf (esc1 (UInt8.ofNat y.val))=true→x=y:=by decide +kernel
theorem zJn(x y:UInt8)(h:esc1 x <+: esc1 y):x=y:=by
 have:=zTT ⟨x.toNat,x.toNat_lt⟩ ⟨y.toNat,y.toNat_lt⟩ (by simp only[UInt8.ofNat_toNat];exact List.isPrefixOf_iff_prefix.2 h);have h2:x.toNat=y.toNat:=congrArg Fin.val this;exact UInt8.toNat_inj.1 h2
theorem zTU{x y:UInt8}{r1 r2:List UInt8}(h:esc1 x++r1=esc1 y++r2):x=y:=by
 have h1:esc1 x <+: esc1 y++r2:=⟨r1,h⟩;have h2:esc1 y <+: esc1 y++r2:=⟨r2,rfl⟩
 by_cases hl:(esc1 x).length≤(esc1 y).length
 ·exact zJn x y (List.prefix_of_prefix_length_le h1 h2 hl)
 ·exact(zJn y x (List.prefix_of_prefix_length_le h2 h1 (by omega))).symm
theorem zEg(x:UInt8):(∃r,r≠[]∧esc1 x=92::r)∨(esc1 x=[x]∧x≠92):=by
 unfold esc1
 repeat' split
 all_goals first|exact .inl ⟨_,by simp,rfl⟩|exact .inr ⟨rfl,by assumption⟩
def Mt(t:List UInt8)(i k:Nat):Prop:=1<(esc1 (UInt8.ofNat k)).length∧i+(esc1 (UInt8.ofNat k)).length<t.length∧(t.drop i).take (esc1 (UInt8.ofNat k)).length=esc1 (UInt8.ofNat k)
def PW(t l:List UInt8)(i:Nat):Prop:=1≤i∧∀l0,innr t=escS l0→∃l2,l0=l++l2∧(t.drop i).dropLast=escS l2
theorem zPh(t:List UInt8):PW t [] 1:=⟨Nat.le_refl _,fun l0 h=>⟨l0,rfl,h⟩⟩
theorem zEO(X:List UInt8):X.dropLast=X.take (X.length-1):=List.dropLast_eq_take
theorem zJr(t:List UInt8)(i:Nat):(t.drop i).dropLast.length=t.length-i-1:=by simp
theorem zVB{t l2 E:List UInt8}{i:Nat}(h:(t.drop i).dropLast=E++l2):(t.drop (i+E.length)).dropLast=l2:=by
 have h1:=congrArg (List.drop E.length) h;rw[List.drop_left] at h1;rw[←h1,←List.drop_drop,zEO,zEO,List.drop_take]
 congr 1
 simp;omega
theorem zFU{t l2:List UInt8}{i:Nat}{c d:UInt8}(hi:i+1<t.length)(hc:t[i]?=some c)(h:(t.drop i).dropLast=d::l2):d=c:=by
 have h1:=congrArg (fun x=>x[0]?) h;simp only[List.getElem?_cons_zero] at h1;rw[zEO,List.getElem?_take,if_pos (by simp;omega),List.getElem?_drop,Nat.add_zero,hc] at h1;exact(Option.some.inj h1).symm
theorem zFT{t l2:List UInt8}{i:Nat}(hi:i+1<t.length)(h:(t.drop i).dropLast=escS l2):∃c l3,l2=c::l3∧(t.drop i).dropLast=esc1 c++escS l3:=by
 cases l2 with
 | nil=>
  have:=congrArg List.length h;rw[zJr] at this;simp[escS] at this;omega
 | cons c l3=>exact⟨c,l3,rfl,by rw[h];simp[escS]⟩
theorem zPj{t l:List UInt8}{i:Nat}{c:UInt8}(h:PW t l i)(hi:i+1<t.length)(hc:t[i]?=some c)(hn:c≠92):PW t (l++[c]) (i+1):=by
 refine⟨by omega,fun l0 h0=>?_⟩;obtain⟨l2,rfl,h2⟩:=h.2 l0 h0;obtain⟨d,l3,rfl,h3⟩:=zFT hi h2
 rcases zEg d with ⟨r,_,e⟩|⟨e,_⟩
 ·rw[e] at h3
  exact absurd (zFU hi hc h3).symm hn
 ·rw[e] at h3
  have:d=c:=zFU hi hc h3;subst this;exact⟨l3,by simp,zVB h3⟩
theorem zPi{t l:List UInt8}{i:Nat}(h:PW t l i)(hi:i+1<t.length)(hc:t[i]?=some 92)(hs:t.length≤i+2):PW t (l++[92]) (i+1):=by
 refine⟨by omega,fun l0 h0=>?_⟩;obtain⟨l2,rfl,h2⟩:=h.2 l0 h0;obtain⟨d,l3,rfl,h3⟩:=zFT hi h2;exfalso
 rcases zEg d with ⟨r,hr,e⟩|⟨e,hn⟩
 ·have hl:=congrArg List.length h3
  rw[zJr,List.length_append,e] at hl;have:r.length≠0:=fun x=>hr (List.eq_nil_of_length_eq_zero x);simp at hl;omega
 ·rw[e] at h3
  exact hn (zFU hi hc h3)
theorem zVC{t l:List UInt8}{i k:Nat}(h:PW t l i)(hi:i+1<t.length)(hm:Mt t i k):PW t (l++[UInt8.ofNat k]) (i+(esc1 (UInt8.ofNat k)).length):=by
 obtain⟨m1,m2,m3⟩:=hm;refine⟨by have:=h.1;omega,fun l0 h0=>?_⟩;obtain⟨l2,rfl,h2⟩:=h.2 l0 h0;obtain⟨d,l3,rfl,h3⟩:=zFT hi h2
 have h4:(t.drop i).dropLast.take (esc1 (UInt8.ofNat k)).length=esc1 (UInt8.ofNat k):=by
  rw[zEO,List.take_take,Nat.min_eq_left (by simp;omega)];exact m3
 have h5:esc1 (UInt8.ofNat k)++(t.drop i).dropLast.drop (esc1 (UInt8.ofNat k)).length=esc1 d++escS l3:=by
  rw[←h3]
  conv=>rhs;rw[←List.take_append_drop (esc1 (UInt8.ofNat k)).length (t.drop i).dropLast]
  rw[h4]
 have hd:UInt8.ofNat k=d:=zTU h5;rw[hd];exact⟨l3,by simp,zVB h3⟩
theorem zSR{t l:List UInt8}{i:Nat}(h:PW t l i)(hi:i+1<t.length)(hc:t[i]?=some 92)(hm:∀k,k<256→¬Mt t i k):PW t (l++[92]) (i+1):=by
 refine⟨by omega,fun l0 h0=>?_⟩;obtain⟨l2,rfl,h2⟩:=h.2 l0 h0;obtain⟨d,l3,rfl,h3⟩:=zFT hi h2;exfalso
 rcases zEg d with ⟨r,hr,e⟩|⟨e,hn⟩
 ·refine hm d.toNat d.toNat_lt ?_
  have hl:=congrArg List.length h3;rw[zJr,List.length_append] at hl
  have h1:1<(esc1 d).length:=by
   rw[e];have:r.length≠0:=fun x=>hr (List.eq_nil_of_length_eq_zero x);simp;omega
  unfold Mt;rw[UInt8.ofNat_toNat];refine⟨h1,by omega,?_⟩;have h5:=congrArg (List.take (esc1 d).length) h3;rw[List.take_left,zEO,List.take_take,Nat.min_eq_left (by simp;omega)] at h5;exact h5
 ·rw[e] at h3
  exact hn (zFU hi hc h3)
theorem zVD{t l:List UInt8}{i:Nat}(h:PW t l i)(hi:t.length≤i+1):∀l0,innr t=escS l0→l=l0:=fun l0 h0=>by
 obtain⟨l2,rfl,h2⟩:=h.2 l0 h0
 cases l2 with
 | nil=>simp
 | cons c l3=>
  have:=congrArg List.length h2;rw[zJr] at this
  rcases zEg c with ⟨r,_,e⟩|⟨e,_⟩<;>simp[escS,e] at this<;>omega
end
section
open Go.RowKit Go.Lib Go.Shelf
theorem zAS{P:Program}{w:World}{ops:Array Oper}{rest:List Oper}{o:Oper}{a:Act}{Q:Exit→Act→World→Prop}(hgd:o.guard=none)(s x:Operand)(t:TypeId)
  (ho:o.op=.call {callee:=.builtin .append,args:=#[s,x],argTypes:=#[t,t]}) (v z:Value) (hs:a.eval s=v) (hx:a.eval x=z) {v':Value} {w':World} (hr:(Builtin.append_ #[t,t] o.type #[v,z]).run P w=.ok v' w')
  (h:wpList P ops Q rest (a.put o.dst v') w'):wpList P ops Q (o::rest) a w:=by
 refine wpList_plain hgd fun K hK=>?_;unfold Oper.wp execOp;simp only[ho,resolve,invoke,builtin,Sem.run_bind,Sem.run_pure,Result.andThen_ok,List.map_toArray,List.map_cons,List.map_nil,hs,hx,hr];exact hK _ _ h
theorem zOl{k:Nat}(h:k<256):(UInt8.ofNat k).toNat=k:=by rw[UInt8.toNat_ofNat'];omega
abbrev cu(c:UInt8):Value:=.int .u8 (c.toNat:Int)
def OB(w W:World)(v:Value)(l:List UInt8):Prop:=W.ownsRow w.heap.size 5 1 v l.length (l.map cu)∧G w W
theorem OB.G{w W W':World}{v:Value}{l:List UInt8}(h:OB w W v l)(g:Go.Proofs.YthmdjhfbhbheeaaGreatDoor.G W W'):OB w W' v l:=by
 refine⟨⟨h.1.1,?_⟩,h.2.trans g⟩
 rcases h.1.2 with hn|⟨gb,cap,cur,rfl,hb,hgg,rest⟩
 ·exact .inl hn
 ·refine .inr ⟨gb,cap,cur,rfl,hb,?_,rest⟩
  rw[g.block gb (Array.getElem?_eq_some_iff.1 hgg).1];exact hgg
theorem G.trans2o{w a b:World}{row:Option Nat}(h:Go.Proofs.YthmdjhfbhbheeaaGreatDoor.G w a)(k:a.grownBy b row)(hF:∀j,row=some j→w.heap.size≤j):Go.Proofs.YthmdjhfbhbheeaaGreatDoor.G w b:=
 ⟨k.os.trans h.os,k.tape.trans h.tape,k.output.trans h.output,Nat.le_trans h.size k.size,fun j hj=>(k.block j (Nat.lt_of_lt_of_le hj h.size) (fun e=>by have:=hF j e.symm;omega)).trans (h.block j hj)⟩
theorem zWc:∃i,prog.info? 5=some i∧i.zero=some (.int .u8 0)∧i.size=1∧i.bytes=1:=by
 have h:(prog.info? 5).map (fun i=>(i.zero,i.size,i.bytes))=some (some (.int .u8 0),1,1):=by kernel_rfl
 obtain⟨i,h1,h2⟩:=Option.map_eq_some_iff.1 h;simp only[Prod.mk.injEq] at h2;exact⟨i,h1,h2.1,h2.2.1,h2.2.2⟩
theorem zGk(ty:TypeId)(c:UInt8)(z:Int)(hz:z=(c.toNat:Int)){w W:World}{v:Value}{l:List UInt8}(hl:l.length≤140737488351232)(h:OB w W v l) :
  ∃v' w',(Builtin.append_ #[33,33] ty #[v,.slice (some ⟨W.heap.size,0,none⟩) 1 1]).run prog (W.alloc (.cells #[.int .u8 z] 5))=.ok v' w'∧OB w w' v' (l++[c]):=by
 subst hz;obtain⟨i,hi,hz0,hz1,hz2⟩:=zWc;have h1:=h.G ((Go.Proofs.YthmdjhfbhbheeaaGreatDoor.G.refl W).alloc (.cells #[cu c] 5));obtain⟨v',w',hr,q2,q3,_,_⟩:=run_append_own_at (P:=prog) (W.alloc (.cells #[cu c] 5)) w.heap.size 33 ty 5 i _ 1 1 underlying33 hi hz0 hz1 hz2 rfl (by decide) v l.length (l.map cu) h1.1 ⟨W.heap.size,0,none⟩ 1 1 [cu c] rfl (cell_one_new _ _ _) (fun u hu=>by simp at hu;subst hu;rfl) (by unfold maxLen;omega) (by omega) h1.2.size;refine⟨v',w',hr,by rw[List.length_append,List.map_append];exact q2,?_⟩
 exact h1.2.trans2o q3 (fun j hj=>by
  rcases h1.1.2 with ⟨rfl,_⟩|⟨gb,cap,cur,rfl,hb,_⟩
  ·simp[Value.ownBlock] at hj
  ·simp[Value.ownBlock] at hj;omega)
theorem zUh{w W:World}{v:Value}{l:List UInt8}(h:OB w W v l):(convert 33 9 v).run prog W=.ok (.string (strU l)) W:=by
 rcases h.1.2 with ⟨rfl,hn⟩|⟨g,cap,cur,rfl,hb,hgg,hc,_⟩
 ·have:l=[]:=List.eq_nil_of_length_eq_zero hn
  subst this;exact run_convert_bytes_nil W 33 5 underlying33 underlying5 0 0 9 underlying9
 ·refine run_convert_bytes_back _ 33 9 5 ⟨g,0,none⟩ cap l underlying33 underlying5 underlying9 (fun j hj=>?_)
  have:=h.1.cells (g:=g) rfl j (cu l[j]) (by rw[List.getElem?_map,List.getElem?_eq_getElem hj];rfl);exact this
theorem zLX(u:ByteArray)(i n:Nat):(u.extract i (i+n)).data.toList=(u.data.toList.drop i).take n:=by
 rw[ByteArray.data_extract,Array.toList_extract,List.extract_eq_take_drop,Nat.add_sub_cancel_left]
theorem zOx(u:ByteArray)(hs:u.size≤140737488351232)(w:World):Calls prog 136 #[.string u] w fun e w'=>∃x:ByteArray,e=.returned (.string x)∧G w w'∧x.size≤u.size∧∀l0,innr u.data.toList=escS l0→x.data.toList=l0:=by
 have hll:u.data.toList.length=u.size:=by rw[Array.length_toList];rfl
 have H0:Hid (OB w w (.slice none 0 0) []):=⟨World.ownsRow_nil _ _ _ _,G.refl _⟩
 go_enter func136,ntmps136
 go_wp2_with fail
 go_loopw [3,4,5,6,7] (fun b p _ _ _ W=>∃(i:Nat) (l:List UInt8),OB w W b l∧PW u.data.toList l i∧i≤u.size+1∧l.length+1≤i∧p=.int .i64 i) (fun _ p _ _ _ _=>u.size-(RowKit.intOf p).toNat)
 case atStart=>exact⟨1,[],H0.out,zPh _,by omega,by simp,rfl⟩
 case round=>
  obtain⟨i,l,hob,hpw,hi,hli,rfl⟩:=hrel;have HOB:=hide hob;have HPW:=hide hpw;have hi1:=hpw.1;clear hob hpw H0
  by_cases hlt:i+1<u.size
  ·have hltI:(i:Int)+1<(u.size:Int):=by omega
   have his:i<u.size:=by omega
   have hiI:(i:Int)<(u.size:Int):=by omega
   have HGT:=hide (zDb u i his)
   by_cases hc:u[i]=92
   ·have hc2:u[i].toNat=92:=by rw[hc];rfl
    have hc3:(u[i].toNat:Int)=92:=by omega
    rw[hc] at HGT
    by_cases h2:i+2<u.size
    ·have h2I:(i:Int)+2<(u.size:Int):=by omega
     go_wp2_with fail
     go_loopw [4,5,6,7] (fun p c q _ W=>∃k:Nat,k≤256∧q=.int .i64 k∧p=.int .i64 i∧c=.int .u8 92∧G wr W∧∀j,j<k→¬Mt u.data.toList i j) (fun _ _ q _ _=>256-(RowKit.intOf q).toNat)
     case atStart=>exact⟨0,by omega,rfl,rfl,by first|rfl|rw[hc3],G.refl _,fun j hj=>by omega⟩
     case round=>
      obtain⟨k,hk,rfl,rfl,rfl,hgk,hno⟩:=hrel;have HGK:=hide hgk;have HNO:=hide hno;clear hgk hno
      by_cases hkl:k<256
      ·have hkI:(k:Int)<256:=by omega
       have hkw:IntKind.u8.wrap (k:Int)=(k:Int):=by rw[IntKind.wrap_u8];omega
       go_wp2_with fail
       refine(zIK k hkl _).mono ?_;rintro e' w3 ⟨rfl,hg3⟩;have HG3:=hide (HGK.out.trans hg3);clear hg3;obtain⟨E,hE⟩:∃E,esc1 (UInt8.ofNat k)=E:=⟨_,rfl⟩;have hEl:=zEx (UInt8.ofNat k);rw[hE] at hEl⊢;have HE:=hide hE;have hEs:=zCY E;clear hE
       by_cases h1:1<E.length
       ·have h1I:(1:Int)<(E.length:Int):=by omega
        by_cases h3:i+E.length<u.size
        ·have h3I:(i:Int)+(E.length:Int)<(u.size:Int):=by omega
         have hx1:(i:Int)+(E.length:Int)≤(u.size:Int):=by omega
         have hx2:(i:Int)≤(i:Int)+(E.length:Int):=by omega
         have hex:=zLX u i E.length
         by_cases hq:(u.data.toList.drop i).take E.length=E
         ·have HTK:=hide hq
          have hqb:((u.extract i (i+E.length)).toList==(strU E).toList)=true:=by
           rw[ByteArray.toList_eq,ByteArray.toList_eq,hex,zAK,hq];exact beq_self_eq_true _
          clear hex hq;obtain⟨v',w',hrun,hob⟩:=zGk 33 (UInt8.ofNat k) (k:Int) (by rw[zOl hkl]) (by omega) (HOB.out.G HG3.out);have HRUN:=hide hrun;have HON:=hide hob;have HPN:=hide (by have h9:=zVC HPW.out (by rw[hll];exact hlt) ⟨by rw[HE.out];exact h1,by rw[HE.out,hll];exact h3,by rw[HE.out];exact HTK.out⟩;rw[HE.out] at h9;exact h9);clear hrun hob HOB HPW
          go_wp2_with (first|(at_builtin;refine zAS rfl _ _ 33 rfl u3 (.slice (some ⟨w3.heap.size,0,none⟩) 1 1) rfl rfl HRUN.out ?_)|fail)
          clear HRUN
          go_wp2
          go_roundw
          case rel=>exact⟨i+E.length,l++[(UInt8.ofNat k)],HON.out,HPN.out,by omega,by simp;omega,by go_num⟩
          case measure=>simp[RowKit.intOf];omega
         ·have HTK:=hide hq
          have hqb:((u.extract i (i+E.length)).toList==(strU E).toList)=false:=by
           rw[ByteArray.toList_eq,ByteArray.toList_eq,hex,zAK];exact beq_false_of_ne hq
          clear hex hq
          have HNX:Hid (∀j,j<k+1→¬Mt u.data.toList i j):=fun j hj hm=>by
           by_cases hjk:j<k
           ·exact HNO.out j hjk hm
           ·obtain rfl:j=k:=by omega
            obtain⟨m1,m2,m3⟩:=hm;rw[HE.out] at m1 m2 m3;rw[hll] at m2;exact HTK.out m3
          go_wp2
          go_roundw
          case rel=>exact⟨k+1,by omega,by go_num,rfl,rfl,HG3.out,HNX.out⟩
          case measure=>simp[RowKit.intOf];omega
        ·have h3I:¬(i:Int)+(E.length:Int)<(u.size:Int):=by omega
         have HNX:Hid (∀j,j<k+1→¬Mt u.data.toList i j):=fun j hj hm=>by
          by_cases hjk:j<k
          ·exact HNO.out j hjk hm
          ·obtain rfl:j=k:=by omega
           obtain⟨m1,m2,m3⟩:=hm;rw[HE.out] at m1 m2 m3;rw[hll] at m2;exact h3 m2
         go_wp2
         go_roundw
         case rel=>exact⟨k+1,by omega,by go_num,rfl,rfl,HG3.out,HNX.out⟩
         case measure=>simp[RowKit.intOf];omega
       ·have h1I:¬(1:Int)<(E.length:Int):=by omega
        have HNX:Hid (∀j,j<k+1→¬Mt u.data.toList i j):=fun j hj hm=>by
         by_cases hjk:j<k
         ·exact HNO.out j hjk hm
         ·obtain rfl:j=k:=by omega
          obtain⟨m1,m2,m3⟩:=hm;rw[HE.out] at m1 m2 m3;rw[hll] at m2;exact h1 m1
        go_wp2
        go_roundw
        case rel=>exact⟨k+1,by omega,by go_num,rfl,rfl,HG3.out,HNX.out⟩
        case measure=>simp[RowKit.intOf];omega
      ·obtain rfl:k=256:=by omega
       obtain⟨v',w',hrun,hob⟩:=zGk 33 92 92 (rfl) (by omega) (HOB.out.G HGK.out);have HRUN:=hide hrun;have HON:=hide hob;have HPN:=hide (zSR HPW.out (by rw[hll];exact hlt) HGT.out (fun j hj=>HNO.out j hj));clear hrun hob HOB HPW
       go_wp2_with (first|(at_builtin;refine zAS rfl _ _ 33 rfl u3 (.slice (some ⟨wr.heap.size,0,none⟩) 1 1) rfl rfl HRUN.out ?_)|fail)
       clear HRUN
       go_wp2
       go_roundw
       case rel=>exact⟨i+1,l++[92],HON.out,HPN.out,by omega,by simp;omega,by go_num⟩
       case measure=>simp[RowKit.intOf];omega
    ·have h2I:¬(i:Int)+2<(u.size:Int):=by omega
     obtain⟨v',w',hrun,hob⟩:=zGk 33 92 92 (rfl) (by omega) HOB.out;have HRUN:=hide hrun;have HON:=hide hob;have HPN:=hide (zPi HPW.out (by rw[hll];exact hlt) HGT.out (by rw[hll];omega));clear hrun hob HOB HPW
     go_wp2_with (first|(at_builtin;refine zAS rfl _ _ 33 rfl u3 (.slice (some ⟨wr.heap.size,0,none⟩) 1 1) rfl rfl HRUN.out ?_)|fail)
     clear HRUN
     go_wp2
     go_roundw
     case rel=>exact⟨i+1,l++[92],HON.out,HPN.out,by omega,by simp;omega,by go_num⟩
     case measure=>simp[RowKit.intOf];omega
   ·have hc2:¬u[i].toNat=92:=fun e=>hc (UInt8.toNat_inj.1 e)
    have hc3:((u[i].toNat:Int)==92)=false:=beq_false_of_ne (by omega);have hcl:=u[i].toNat_lt;obtain⟨v',w',hrun,hob⟩:=zGk 33 u[i] (u[i].toNat:Int) (rfl) (by omega) HOB.out;have HRUN:=hide hrun;have HON:=hide hob;have HPN:=hide (zPj HPW.out (by rw[hll];exact hlt) HGT.out hc);clear hrun hob HOB HPW
    go_wp2_with (first|(at_builtin;refine zAS rfl _ _ 33 rfl u3 (.slice (some ⟨wr.heap.size,0,none⟩) 1 1) rfl rfl HRUN.out ?_)|fail)
    clear HRUN
    go_wp2
    go_roundw
    case rel=>exact⟨i+1,l++[u[i]],HON.out,HPN.out,by omega,by simp;omega,by go_num⟩
    case measure=>simp[RowKit.intOf];omega
  ·have hltI:¬(i:Int)+1<(u.size:Int):=by omega
   have hcv:=zUh HOB.out;have HEN:=hide (zVD HPW.out (by rw[hll];omega))
   go_wp2
   go_ret;exact⟨strU l,rfl,HOB.out.2,by rw[zCY];omega,fun l0 h0=>by rw[zAK];exact HEN.out l0 h0⟩
end
section
open Go.RowKit Go.Lib Go.Shelf
theorem zBC(l l':List UInt8):strU l++strU l'=strU (l++l'):=by
 apply ByteArray.ext;simp[strU]
theorem zIc:∀(k u:Nat),u<10^(k+1)→(decDigits u).length≤k+1
 | 0,u,h=>by rw[decDigits,dif_pos (by simpa using h)];simp
 | k+1,u,h=>by
  rw[decDigits]
  by_cases c:u<10
  ·rw[dif_pos c];simp
  ·rw[dif_neg c,List.length_append,List.length_singleton]
   have:=zIc k (u/10) (by rw[Nat.pow_succ] at h;omega);omega
theorem zEf(n:Int)(h:R64 n):(itoa n).length≤21:=by
 unfold R64 at h;unfold itoa
 split
 ·have:=zIc 19 n.natAbs (by omega)
  rw[List.length_cons];omega
 ·have:=zIc 19 n.toNat (by omega)
  omega
theorem zCw(l:List UInt8):(strU l).size=l.length:=by simp[strU,ByteArray.size]
def ILit(x:Value)(l:List UInt8):Prop:=∃(t:TypeId) (f:FuncId) (v:Value),x=.iface t v∧(∀w,(method 351 t v "trellis/value.literal").run prog w=.ok (f,v) w)∧(∀w,(callFunc f #[v]).run prog w=.ok (.enter f #[v]) w)∧∀w,Env w→CG f #[v] w (.string (strU l))
theorem zPH:ILit (.iface 110 (.agg #[])) [110,117,108,108]:=by
 refine⟨_,232,_,rfl,fun w=>by kernel_rfl,fun w=>by simp[go_sem],fun w _=>?_⟩
 go_enter func232,ntmps232
 go_wp2
 go_ret;exact⟨rfl,by repeat(first|exact G.refl _|refine G.alloc ?_ _)⟩
theorem zGO(b:Bool):ILit (.iface 111 (.bool b)) (if b then [116,114,117,101] else [102,97,108,115,101]):=by
 refine⟨_,237,_,rfl,fun w=>by kernel_rfl,fun w=>by simp[go_sem],fun w _=>?_⟩;cases b
 all_goals
  have HF:Hid (∀b,Calls prog 241 #[.bool b] w fun e w'=>e=.returned (.string ⟨(formatBool b).toArray⟩)∧w'=w):=fun b=>Any.strconv_FormatBool Tryz.laysFormatBool b w
  go_enter func237,ntmps237
  go_wp2_with fail
  refine(HF.out _).mono ?_;rintro e w1 ⟨rfl,rfl⟩
  go_wp2
  go_ret;exact⟨rfl,G.refl _⟩
theorem zNe(n:Int)(h:R64 n):ILit (.iface 135 (.int .i64 n)) (itoa n):=by
 refine⟨_,244,_,rfl,fun w=>by kernel_rfl,fun w=>by simp[go_sem],fun w hE=>?_⟩;have HF:Hid (CG 249 #[.int .i64 n] w (.string (strU (itoa n)))):=zF6 n h w hE;clear hE
 go_enter func244,ntmps244
 go_wp2_with fail
 refine HF.out.mono ?_;rintro e w1 ⟨rfl,hb⟩;have HB:Hid _:=hb;clear hb
 go_wp2
 go_ret;exact⟨rfl,HB.out⟩
theorem zPI(n:Int)(h:R64 n):ILit (.iface 138 (.int .i64 n)) (40::itoa n++[41]):=by
 refine⟨_,265,_,rfl,fun w=>by kernel_rfl,fun w=>by simp[go_sem],fun w hE=>?_⟩;have HF:Hid (CG 249 #[.int .i64 n] w (.string (strU (itoa n)))):=zF6 n h w hE;clear hE
 go_enter func265,ntmps265
 go_wp2_with fail
 refine HF.out.mono ?_;rintro e w1 ⟨rfl,hb⟩;have HB:Hid _:=hb;clear hb;have hz:=zEf n h
 have hz1:(strU (itoa n)).size≤100:=by rw[zCw];omega
 have hz2:(({data:=#[40]}:ByteArray)++strU (itoa n)).size≤101:=by rw[ByteArray.size_append];show 1+_≤101;omega
 go_wp2
 go_ret;refine⟨?_,HB.out⟩;show Ending.returned (.string (strU [40]++strU (itoa n)++strU [41]))=_;rw[zBC,zBC];rfl
theorem zPJ(n:Int)(h:R64 n):ILit (.iface 139 (.int .i64 n)) (91::itoa n++[93]):=by
 refine⟨_,270,_,rfl,fun w=>by kernel_rfl,fun w=>by simp[go_sem],fun w hE=>?_⟩;have HF:Hid (CG 249 #[.int .i64 n] w (.string (strU (itoa n)))):=zF6 n h w hE;clear hE
 go_enter func270,ntmps270
 go_wp2_with fail
 refine HF.out.mono ?_;rintro e w1 ⟨rfl,hb⟩;have HB:Hid _:=hb;clear hb;have hz:=zEf n h
 have hz1:(strU (itoa n)).size≤100:=by rw[zCw];omega
 have hz2:(({data:=#[91]}:ByteArray)++strU (itoa n)).size≤101:=by rw[ByteArray.size_append];show 1+_≤101;omega
 go_wp2
 go_ret;refine⟨?_,HB.out⟩;show Ending.returned (.string (strU [91]++strU (itoa n)++strU [93]))=_;rw[zBC,zBC];rfl
theorem zTz(x y:Nat)(a b:Int)(hx:Fl x a)(hy:Fl y b)(ha:a.natAbs<2^53)(hb:b.natAbs<2^53):ILit (.iface 136 (.complex .f64 x y)) ((if b<0 then itoa a++itoa b else itoa a++43::itoa b)++[105]):=by
 refine⟨_,252,_,rfl,fun w=>by kernel_rfl,fun w=>by simp[go_sem],fun w hE=>?_⟩;have HP:Hid _:=zEb x y a b hx hy ha hb;have HD:Hid (∀w n,R64 n→Env w→CG 249 #[.int .i64 n] w (.string (strU (itoa n)))):=fun w n h hE=>zF6 n h w hE;have HE:Hid _:=hE
 have ra:R64 a:=by unfold R64;omega
 have rb:R64 b:=by unfold R64;omega
 clear hE
 go_enter func252,ntmps252
 have hza:=zEf a ra;have hzb:=zEf b rb
 have z1:(strU (itoa a)).size≤100:=by rw[zCw];omega
 have z2:(strU (itoa b)).size≤100:=by rw[zCw];omega
 have z3:(strU (itoa a)++strU (itoa b)).size≤200:=by rw[ByteArray.size_append];omega
 have z4:(strU (itoa a)++({data:=#[43]}:ByteArray)).size≤101:=by rw[ByteArray.size_append];show _+1≤101;omega
 have z5:(strU (itoa a)++({data:=#[43]}:ByteArray)++strU (itoa b)).size≤201:=by rw[ByteArray.size_append];omega
 by_cases hb0:b<0
 ·go_wp2_with fail
  refine(HP.out w).mono ?_;rintro e w1 ⟨rfl,hw⟩;rw[hw];clear hw w1
  go_wp2_with fail
  refine(HD.out w a ra HE.out).mono ?_;rintro e w1 ⟨rfl,g1⟩;have HG1:Hid (G w w1):=g1;clear g1
  go_wp2_with fail
  refine(HD.out w1 b rb (HE.out.G HG1.out)).mono ?_;rintro e w2 ⟨rfl,g2⟩;have HG2:Hid (G w w2):=HG1.out.trans g2;clear g2
  go_wp2
  go_ret;refine⟨?_,HG2.out⟩;show Ending.returned (.string (strU (itoa a)++strU (itoa b)++strU [105]))=_;rw[zBC,zBC];simp
 ·go_wp2_with fail
  refine(HP.out w).mono ?_;rintro e w1 ⟨rfl,hw⟩;rw[hw];clear hw w1
  go_wp2_with fail
  refine(HD.out w a ra HE.out).mono ?_;rintro e w1 ⟨rfl,g1⟩;have HG1:Hid (G w w1):=g1;clear g1
  go_wp2_with fail
  refine(HD.out w1 b rb (HE.out.G HG1.out)).mono ?_;rintro e w2 ⟨rfl,g2⟩;have HG2:Hid (G w w2):=HG1.out.trans g2;clear g2
  go_wp2
  go_ret;refine⟨?_,HG2.out⟩;show Ending.returned (.string (strU (itoa a)++strU [43]++strU (itoa b)++strU [105]))=_;rw[zBC,zBC,zBC];simp
end
section
open Go.RowKit Go.Lib Go.Shelf
def zYl:Nat→Int|0=>92|1=>39|2=>10|3=>9|_=>13
theorem zGV{w:World}(h:Env w):∀o,w.cell? {block:=5,off:=o}=(#[.int .u8 92,.int .u8 92,.int .u8 39,.int .u8 39,.int .u8 10,.int .u8 110,.int .u8 9,.int .u8 116,.int .u8 13,.int .u8 114]:Array Value)[o]?:=by
 have hg:prog.globalNamed "trellis/value.escapes"=some 5:=by kernel_rfl
 exact fun o=>World.var?_cell hg h.e o
theorem zDx(w:World)(X:Obj)(x y:UInt8):(convert 33 9 (.slice (some ⟨w.heap.size+1,0,none⟩) 2 2)).run prog ((w.alloc X).alloc (.cells #[.int .u8 x.toNat,.int .u8 y.toNat] 5))=.ok (.string (strU [x,y])) ((w.alloc X).alloc (.cells #[.int .u8 x.toNat,.int .u8 y.toNat] 5)):=by
 refine run_convert_bytes_back _ 33 9 5 ⟨w.heap.size+1,0,none⟩ 2 [x,y] underlying33 underlying5 underlying9 (fun j hj=>?_)
 match j,hj with
 | 0,_=>simp[Addr.add]
 | 1,_=>simp[Addr.add]
theorem zG2(w:World)(x y z u:UInt8):(convert 33 9 (.slice (some ⟨w.heap.size,0,none⟩) 4 4)).run prog (w.alloc (.cells #[.int .u8 x.toNat,.int .u8 y.toNat,.int .u8 z.toNat,.int .u8 u.toNat] 5)).drew=.ok (.string (strU [x,y,z,u])) (w.alloc (.cells #[.int .u8 x.toNat,.int .u8 y.toNat,.int .u8 z.toNat,.int .u8 u.toNat] 5)).drew:=by
 refine run_convert_bytes_back _ 33 9 5 ⟨w.heap.size,0,none⟩ 4 [x,y,z,u] underlying33 underlying5 underlying9 (fun j hj=>?_)
 match j,hj with
 | 0,_=>simp[Addr.add]
 | 1,_=>simp[Addr.add]
 | 2,_=>simp[Addr.add]
 | 3,_=>simp[Addr.add]
theorem ix_0(w:World):(Instr.index 196 (.agg #[.int .u8 92,.int .u8 92,.int .u8 39,.int .u8 39,.int .u8 10,.int .u8 110,.int .u8 9,.int .u8 116,.int .u8 13,.int .u8 114]) (.int .i64 0)).run prog w=.ok (.agg #[.int .u8 92,.int .u8 92]) w:=by kernel_rfl
theorem ix_1(w:World):(Instr.index 196 (.agg #[.int .u8 92,.int .u8 92,.int .u8 39,.int .u8 39,.int .u8 10,.int .u8 110,.int .u8 9,.int .u8 116,.int .u8 13,.int .u8 114]) (.int .i64 1)).run prog w=.ok (.agg #[.int .u8 39,.int .u8 39]) w:=by kernel_rfl
theorem ix_2(w:World):(Instr.index 196 (.agg #[.int .u8 92,.int .u8 92,.int .u8 39,.int .u8 39,.int .u8 10,.int .u8 110,.int .u8 9,.int .u8 116,.int .u8 13,.int .u8 114]) (.int .i64 2)).run prog w=.ok (.agg #[.int .u8 10,.int .u8 110]) w:=by kernel_rfl
theorem ix_3(w:World):(Instr.index 196 (.agg #[.int .u8 92,.int .u8 92,.int .u8 39,.int .u8 39,.int .u8 10,.int .u8 110,.int .u8 9,.int .u8 116,.int .u8 13,.int .u8 114]) (.int .i64 3)).run prog w=.ok (.agg #[.int .u8 9,.int .u8 116]) w:=by kernel_rfl
theorem ix_4(w:World):(Instr.index 196 (.agg #[.int .u8 92,.int .u8 92,.int .u8 39,.int .u8 39,.int .u8 10,.int .u8 110,.int .u8 9,.int .u8 116,.int .u8 13,.int .u8 114]) (.int .i64 4)).run prog w=.ok (.agg #[.int .u8 13,.int .u8 114]) w:=by kernel_rfl
theorem zP7:∀d:Fin 16,(({data:=#[48,49,50,51,52,53,54,55,56,57,97,98,99,100,101,102]}:ByteArray)[d.val]'(by have:=d.2;exact this)).toNat=(hx d.val).toNat:=by decide
theorem zNJ(z:Int)(d:Nat)(hz:z=d)(hd:d<16){hb:z.toNat<({data:=#[48,49,50,51,52,53,54,55,56,57,97,98,99,100,101,102]}:ByteArray).size}:(({data:=#[48,49,50,51,52,53,54,55,56,57,97,98,99,100,101,102]}:ByteArray)[z.toNat]'hb).toNat=(hx d).toNat:=by
 subst hz;simp only[Int.toNat_natCast];exact zP7 ⟨d,hd⟩
theorem zYH:∀c:Fin 32,bits BinOp.and IntKind.i32 (c.val:Int) 15=((c.val%16:Nat):Int):=by decide
theorem zP0(c:Nat)(hc:c<32)(h:c≠10∧c≠9∧c≠13):esc1 (UInt8.ofNat c)=[92,120,hx (c/16),hx (c%16)]:=by
 have ht:(UInt8.ofNat c).toNat=c:=by rw[UInt8.toNat_ofNat',Nat.mod_eq_of_lt (by omega)]
 have hn:∀d:UInt8,c≠d.toNat→¬UInt8.ofNat c=d:=fun d hd e=>hd (by rw[←e,ht]);unfold esc1;rw[if_neg (hn 92 (show c≠92 by omega)),if_neg (hn 39 (show c≠39 by omega)),if_neg (hn 10 h.1),if_neg (hn 9 h.2.1),if_neg (hn 13 h.2.2),if_pos (.inl (by rw[ht];exact hc)),ht]
theorem zIa(r:Int)(h0:0≤r)(h1:r≤1114111)(w:World)(hE:Env w):Calls prog 262 #[.int .i32 r] w fun e w'=>e=.returned (.string (if r<128 then strU (esc1 (UInt8.ofNat r.toNat))else Utf8.encode r))∧G w w':=by
 have hc:=zGV hE;clear hE
 go_enter func262,ntmps262
 go_wp2
 go_loopw [6] (fun i W=>∃k:Nat,k≤5∧i=.int .i64 k∧G w W∧∀j,j<k→r≠zYl j) (fun i _=>5-(RowKit.intOf i).toNat)
 case atStart=>exact⟨0,by decide,rfl,G.refl _,fun j hj=>absurd hj (Nat.not_lt_zero j)⟩
 case round=>
  obtain⟨k,hk,rfl,hG,hn⟩:=hrel;have HG:Hid (G w wr):=hG;have HN:Hid _:=hn;clear hG hn
  have hk':k=0∨k=1∨k=2∨k=3∨k=4∨k=5:=by omega
  rcases hk' with rfl|rfl|rfl|rfl|rfl|rfl
  ·have hix:=ix_0
   by_cases hr:r=92
   ·subst hr
    clear HN;have hcv:(convert 33 9 (.slice (some ⟨wr.heap.size+1,0,none⟩) 2 2)).run prog ((wr.alloc (.cells #[.int .u8 92,.int .u8 92] 195)).alloc (.cells #[.int .u8 92,.int .u8 92] 5))=.ok (.string (strU [92,92])) ((wr.alloc (.cells #[.int .u8 92,.int .u8 92] 195)).alloc (.cells #[.int .u8 92,.int .u8 92] 5)):=zDx wr _ 92 92
    go_wp2
    go_ret;exact⟨rfl,(HG.out.alloc _).alloc _⟩
   ·have hrb:(r==92)=false:=beq_false_of_ne hr
    go_wp2
    exact⟨⟨1,by decide,rfl,HG.out.alloc _,fun j hj=>by
     rcases Nat.lt_succ_iff_lt_or_eq.1 hj with h|h
     ·exact HN.out j h
     ·subst h;exact hr⟩,by decide⟩
  ·have hix:=ix_1
   by_cases hr:r=39
   ·subst hr
    clear HN;have hcv:(convert 33 9 (.slice (some ⟨wr.heap.size+1,0,none⟩) 2 2)).run prog ((wr.alloc (.cells #[.int .u8 39,.int .u8 39] 195)).alloc (.cells #[.int .u8 92,.int .u8 39] 5))=.ok (.string (strU [92,39])) ((wr.alloc (.cells #[.int .u8 39,.int .u8 39] 195)).alloc (.cells #[.int .u8 92,.int .u8 39] 5)):=zDx wr _ 92 39
    go_wp2
    go_ret;exact⟨rfl,(HG.out.alloc _).alloc _⟩
   ·have hrb:(r==39)=false:=beq_false_of_ne hr
    go_wp2
    exact⟨⟨2,by decide,rfl,HG.out.alloc _,fun j hj=>by
     rcases Nat.lt_succ_iff_lt_or_eq.1 hj with h|h
     ·exact HN.out j h
     ·subst h;exact hr⟩,by decide⟩
  ·have hix:=ix_2
   by_cases hr:r=10
   ·subst hr
    clear HN;have hcv:(convert 33 9 (.slice (some ⟨wr.heap.size+1,0,none⟩) 2 2)).run prog ((wr.alloc (.cells #[.int .u8 10,.int .u8 110] 195)).alloc (.cells #[.int .u8 92,.int .u8 110] 5))=.ok (.string (strU [92,110])) ((wr.alloc (.cells #[.int .u8 10,.int .u8 110] 195)).alloc (.cells #[.int .u8 92,.int .u8 110] 5)):=zDx wr _ 92 110
    go_wp2
    go_ret;exact⟨rfl,(HG.out.alloc _).alloc _⟩
   ·have hrb:(r==10)=false:=beq_false_of_ne hr
    go_wp2
    exact⟨⟨3,by decide,rfl,HG.out.alloc _,fun j hj=>by
     rcases Nat.lt_succ_iff_lt_or_eq.1 hj with h|h
     ·exact HN.out j h
     ·subst h;exact hr⟩,by decide⟩
  ·have hix:=ix_3
   by_cases hr:r=9
   ·subst hr
    clear HN;have hcv:(convert 33 9 (.slice (some ⟨wr.heap.size+1,0,none⟩) 2 2)).run prog ((wr.alloc (.cells #[.int .u8 9,.int .u8 116] 195)).alloc (.cells #[.int .u8 92,.int .u8 116] 5))=.ok (.string (strU [92,116])) ((wr.alloc (.cells #[.int .u8 9,.int .u8 116] 195)).alloc (.cells #[.int .u8 92,.int .u8 116] 5)):=zDx wr _ 92 116
    go_wp2
    go_ret;exact⟨rfl,(HG.out.alloc _).alloc _⟩
   ·have hrb:(r==9)=false:=beq_false_of_ne hr
    go_wp2
    exact⟨⟨4,by decide,rfl,HG.out.alloc _,fun j hj=>by
     rcases Nat.lt_succ_iff_lt_or_eq.1 hj with h|h
     ·exact HN.out j h
     ·subst h;exact hr⟩,by decide⟩
  ·have hix:=ix_4
   by_cases hr:r=13
   ·subst hr
    clear HN;have hcv:(convert 33 9 (.slice (some ⟨wr.heap.size+1,0,none⟩) 2 2)).run prog ((wr.alloc (.cells #[.int .u8 13,.int .u8 114] 195)).alloc (.cells #[.int .u8 92,.int .u8 114] 5))=.ok (.string (strU [92,114])) ((wr.alloc (.cells #[.int .u8 13,.int .u8 114] 195)).alloc (.cells #[.int .u8 92,.int .u8 114] 5)):=zDx wr _ 92 114
    go_wp2
    go_ret;exact⟨rfl,(HG.out.alloc _).alloc _⟩
   ·have hrb:(r==13)=false:=beq_false_of_ne hr
    go_wp2
    exact⟨⟨5,by decide,rfl,HG.out.alloc _,fun j hj=>by
     rcases Nat.lt_succ_iff_lt_or_eq.1 hj with h|h
     ·exact HN.out j h
     ·subst h;exact hr⟩,by decide⟩
  ·have hn:r≠92∧r≠39∧r≠10∧r≠9∧r≠13:=⟨HN.out 0 (by decide),HN.out 1 (by decide),HN.out 2 (by decide),HN.out 3 (by decide),HN.out 4 (by decide)⟩
   clear HN
   by_cases hl:r<32
   ·obtain⟨c,rfl⟩:∃c:Nat,r=c:=⟨r.toNat,by omega⟩
    have hc32:c<32:=by omega
    have hbt:bits BinOp.and IntKind.i32 (c:Int) 15=((c%16:Nat):Int):=zYH ⟨c,hc32⟩;have HES:Hid (esc1 (UInt8.ofNat c)=[92,120,hx (c/16),hx (c%16)]):=zP0 c hc32 (by omega);have hcv:(convert 33 9 (.slice (some ⟨wr.heap.size,0,none⟩) 4 4)).run prog (wr.alloc (.cells #[.int .u8 92,.int .u8 120,.int .u8 (hx (c/16)).toNat,.int .u8 (hx (c%16)).toNat] 5)).drew=.ok (.string (strU [92,120,hx (c/16),hx (c%16)])) (wr.alloc (.cells #[.int .u8 92,.int .u8 120,.int .u8 (hx (c/16)).toNat,.int .u8 (hx (c%16)).toNat] 5)).drew:=zG2 wr 92 120 (hx (c/16)) (hx (c%16))
    go_wp2_with fail
    refine wp_region_noPanic ?_;refine wp_region_held_drew (S:=(fun _=>True)) (by kernel_rfl) (trivial) (fun hHeld=>?_);refine wpAnyH_take (i:=0) (v:=?_) rfl (by kernel_rfl) (by kernel_rfl) (by kernel_rfl) (fun _ _ _ h=>h) (Or.inl ⟨by rfl,?_⟩) hHeld ?_;rotate_left 1
    ·(intro w hSw;(try dsimp only at hSw);go_simp;try with_reducible rfl)
    try simp only[Act.put,List.getElem_toArray,List.getElem_cons_zero,List.setIfInBounds_toArray,List.set_cons_zero,List.set_cons_succ]
    refine wpAnyH_take (i:=1) (v:=(.int .i32 ((c/16:Nat):Int))) rfl (by kernel_rfl) (by kernel_rfl) (by kernel_rfl) (fun _ _ _ h=>h) (Or.inl ⟨by rfl,?_⟩) hHeld ?_
    ·(intro w hSw;go_simp)
    try simp only[Act.put,List.getElem_toArray,List.getElem_cons_zero,List.getElem_cons_succ,List.setIfInBounds_toArray,List.set_cons_zero,List.set_cons_succ]
    refine wpAnyH_take (i:=2) (v:=(.int .u8 (hx (c/16)).toNat)) rfl (by kernel_rfl) (by kernel_rfl) (by kernel_rfl) (fun _ _ _ h=>h) (Or.inl ⟨by rfl,?_⟩) hHeld ?_
    ·(intro w hSw;go_simp;rw[dif_pos (by omega)];simp only[Result.andThen_ok];rw[zNJ _ (c/16) (by omega) (by omega)])
    try simp only[Act.put,List.getElem_toArray,List.getElem_cons_zero,List.getElem_cons_succ,List.setIfInBounds_toArray,List.set_cons_zero,List.set_cons_succ]
    refine wpAnyH_take (i:=3) (v:=?_) rfl (by kernel_rfl) (by kernel_rfl) (by kernel_rfl) (fun _ _ _ h=>h) (Or.inl ⟨by rfl,?_⟩) hHeld ?_;rotate_left 1
    ·(intro w hSw;(try dsimp only at hSw);go_simp;try with_reducible rfl)
    try simp only[Act.put,List.getElem_toArray,List.getElem_cons_zero,List.getElem_cons_succ,List.setIfInBounds_toArray,List.set_cons_zero,List.set_cons_succ]
    refine wpAnyH_take (i:=4) (v:=(.int .i32 ((c%16:Nat):Int))) rfl (by kernel_rfl) (by kernel_rfl) (by kernel_rfl) (fun _ _ _ h=>h) (Or.inl ⟨by rfl,?_⟩) hHeld ?_
    ·(intro w hSw;go_simp;try rw[hbt])
    try simp only[Act.put,List.getElem_toArray,List.getElem_cons_zero,List.getElem_cons_succ,List.setIfInBounds_toArray,List.set_cons_zero,List.set_cons_succ]
    refine wpAnyH_take (i:=5) (v:=(.int .u8 (hx (c%16)).toNat)) rfl (by kernel_rfl) (by kernel_rfl) (by kernel_rfl) (fun _ _ _ h=>h) (Or.inl ⟨by rfl,?_⟩) hHeld ?_
    ·(intro w hSw;go_simp;rw[dif_pos (by omega)];simp only[Result.andThen_ok];rw[zNJ _ (c%16) (by omega) (by omega)])
    try simp only[Act.put,List.getElem_toArray,List.getElem_cons_zero,List.getElem_cons_succ,List.setIfInBounds_toArray,List.set_cons_zero,List.set_cons_succ]
    refine wpAnyH_ready (rs:=[6]) (by kernel_rfl) (by simp) (AllReadyH.cons rfl (fun K hK=>?_) AllReadyH.nil);clear hHeld
    go_simp
    refine hK.out _ _ (trivial) (fun hHeld=>?_);clear hK K
    try simp only[Act.put,List.getElem_toArray,List.getElem_cons_zero,List.getElem_cons_succ,List.setIfInBounds_toArray,List.set_cons_zero,List.set_cons_succ]
    refine wpAnyH_ready (rs:=[7]) (by kernel_rfl) (by simp) (AllReadyH.cons rfl (fun K hK=>?_) AllReadyH.nil);clear hHeld
    go_simp
    refine hK.out _ _ (trivial) (fun hHeld=>?_);clear hK K
    try simp only[Act.put,List.getElem_toArray,List.getElem_cons_zero,List.getElem_cons_succ,List.setIfInBounds_toArray,List.set_cons_zero,List.set_cons_succ]
    refine wpAnyH_take (i:=8) (v:=?_) rfl (by kernel_rfl) (by kernel_rfl) (by kernel_rfl) (fun _ _ _ h=>h) (Or.inl ⟨by rfl,?_⟩) hHeld ?_;rotate_left 1
    ·(intro w hSw;(try dsimp only at hSw);go_simp;try with_reducible rfl)
    try simp only[Act.put,List.getElem_toArray,List.getElem_cons_zero,List.getElem_cons_succ,List.setIfInBounds_toArray,List.set_cons_zero,List.set_cons_succ]
    refine wpAnyH_done (by kernel_rfl) ?_ _;refine NoPanic.normal ?_
    go_wp2
    go_ret;exact⟨congrArg (fun x=>Ending.returned (.string (strU x))) HES.out.symm,by repeat(first|exact HG.out|refine G.drew ?_|refine G.alloc ?_ _)⟩
   ·by_cases hl2:r=127
    ·subst hl2
     have hbt:bits BinOp.and IntKind.i32 127 15=15:=by decide
     have hcv:(convert 33 9 (.slice (some ⟨wr.heap.size,0,none⟩) 4 4)).run prog (wr.alloc (.cells #[.int .u8 92,.int .u8 120,.int .u8 (({data:=#[48,49,50,51,52,53,54,55,56,57,97,98,99,100,101,102]}:ByteArray)[7]'(by decide)).toNat,.int .u8 (({data:=#[48,49,50,51,52,53,54,55,56,57,97,98,99,100,101,102]}:ByteArray)[15]'(by decide)).toNat] 5)).drew=.ok (.string (strU [92,120,(({data:=#[48,49,50,51,52,53,54,55,56,57,97,98,99,100,101,102]}:ByteArray)[7]'(by decide)),(({data:=#[48,49,50,51,52,53,54,55,56,57,97,98,99,100,101,102]}:ByteArray)[15]'(by decide))])) (wr.alloc (.cells #[.int .u8 92,.int .u8 120,.int .u8 (({data:=#[48,49,50,51,52,53,54,55,56,57,97,98,99,100,101,102]}:ByteArray)[7]'(by decide)).toNat,.int .u8 (({data:=#[48,49,50,51,52,53,54,55,56,57,97,98,99,100,101,102]}:ByteArray)[15]'(by decide)).toNat] 5)).drew:=zG2 wr 92 120 (({data:=#[48,49,50,51,52,53,54,55,56,57,97,98,99,100,101,102]}:ByteArray)[7]'(by decide)) (({data:=#[48,49,50,51,52,53,54,55,56,57,97,98,99,100,101,102]}:ByteArray)[15]'(by decide))
     go_wp2_with fail
     refine wp_region_noPanic ?_;refine wp_region_held_drew (S:=(fun _=>True)) (by kernel_rfl) (trivial) (fun hHeld=>?_);refine wpAnyH_take (i:=0) (v:=?_) rfl (by kernel_rfl) (by kernel_rfl) (by kernel_rfl) (fun _ _ _ h=>h) (Or.inl ⟨by rfl,?_⟩) hHeld ?_;rotate_left 1
     ·(intro w hSw;(try dsimp only at hSw);go_simp;try with_reducible rfl)
     try simp only[Act.put,List.getElem_toArray,List.getElem_cons_zero,List.setIfInBounds_toArray,List.set_cons_zero,List.set_cons_succ]
     refine wpAnyH_take (i:=1) (v:=?_) rfl (by kernel_rfl) (by kernel_rfl) (by kernel_rfl) (fun _ _ _ h=>h) (Or.inl ⟨by rfl,?_⟩) hHeld ?_;rotate_left 1
     ·(intro w hSw;(try dsimp only at hSw);go_simp;try with_reducible rfl)
     try simp only[Act.put,List.getElem_toArray,List.getElem_cons_zero,List.getElem_cons_succ,List.setIfInBounds_toArray,List.set_cons_zero,List.set_cons_succ]
     refine wpAnyH_take (i:=2) (v:=?_) rfl (by kernel_rfl) (by kernel_rfl) (by kernel_rfl) (fun _ _ _ h=>h) (Or.inl ⟨by rfl,?_⟩) hHeld ?_;rotate_left 1
     ·(intro w hSw;(try dsimp only at hSw);go_simp;try with_reducible rfl)
     try simp only[Act.put,List.getElem_toArray,List.getElem_cons_zero,List.getElem_cons_succ,List.setIfInBounds_toArray,List.set_cons_zero,List.set_cons_succ]
     refine wpAnyH_take (i:=3) (v:=?_) rfl (by kernel_rfl) (by kernel_rfl) (by kernel_rfl) (fun _ _ _ h=>h) (Or.inl ⟨by rfl,?_⟩) hHeld ?_;rotate_left 1
     ·(intro w hSw;(try dsimp only at hSw);go_simp;try with_reducible rfl)
     try simp only[Act.put,List.getElem_toArray,List.getElem_cons_zero,List.getElem_cons_succ,List.setIfInBounds_toArray,List.set_cons_zero,List.set_cons_succ]
     refine wpAnyH_take (i:=4) (v:=?_) rfl (by kernel_rfl) (by kernel_rfl) (by kernel_rfl) (fun _ _ _ h=>h) (Or.inl ⟨by rfl,?_⟩) hHeld ?_;rotate_left 1
     ·(intro w hSw;(try dsimp only at hSw);go_simp;try with_reducible rfl)
     try simp only[Act.put,List.getElem_toArray,List.getElem_cons_zero,List.getElem_cons_succ,List.setIfInBounds_toArray,List.set_cons_zero,List.set_cons_succ]
     refine wpAnyH_take (i:=5) (v:=?_) rfl (by kernel_rfl) (by kernel_rfl) (by kernel_rfl) (fun _ _ _ h=>h) (Or.inl ⟨by rfl,?_⟩) hHeld ?_;rotate_left 1
     ·(intro w hSw;(try dsimp only at hSw);go_simp;try with_reducible rfl)
     try simp only[Act.put,List.getElem_toArray,List.getElem_cons_zero,List.getElem_cons_succ,List.setIfInBounds_toArray,List.set_cons_zero,List.set_cons_succ]
     refine wpAnyH_ready (rs:=[6]) (by kernel_rfl) (by simp) (AllReadyH.cons rfl (fun K hK=>?_) AllReadyH.nil);clear hHeld
     go_simp
     refine hK.out _ _ (trivial) (fun hHeld=>?_);clear hK K
     try simp only[Act.put,List.getElem_toArray,List.getElem_cons_zero,List.getElem_cons_succ,List.setIfInBounds_toArray,List.set_cons_zero,List.set_cons_succ]
     refine wpAnyH_ready (rs:=[7]) (by kernel_rfl) (by simp) (AllReadyH.cons rfl (fun K hK=>?_) AllReadyH.nil);clear hHeld
     go_simp
     refine hK.out _ _ (trivial) (fun hHeld=>?_);clear hK K
     try simp only[Act.put,List.getElem_toArray,List.getElem_cons_zero,List.getElem_cons_succ,List.setIfInBounds_toArray,List.set_cons_zero,List.set_cons_succ]
     refine wpAnyH_take (i:=8) (v:=?_) rfl (by kernel_rfl) (by kernel_rfl) (by kernel_rfl) (fun _ _ _ h=>h) (Or.inl ⟨by rfl,?_⟩) hHeld ?_;rotate_left 1
     ·(intro w hSw;(try dsimp only at hSw);go_simp;try with_reducible rfl)
     try simp only[Act.put,List.getElem_toArray,List.getElem_cons_zero,List.getElem_cons_succ,List.setIfInBounds_toArray,List.set_cons_zero,List.set_cons_succ]
     refine wpAnyH_done (by kernel_rfl) ?_ _;refine NoPanic.normal ?_
     all_goals go_wp2
     all_goals go_ret
     all_goals exact⟨rfl,by repeat(first|exact HG.out|refine G.drew ?_|refine G.alloc ?_ _)⟩
    ·have hlb:(r==127)=false:=beq_false_of_ne hl2
     by_cases hl3:r<128
     ·have he:Value.string (strU (esc1 (UInt8.ofNat r.toNat)))=.string (Utf8.encode r):=by
       obtain⟨n,rfl⟩:∃n:Nat,r=n:=⟨r.toNat,by omega⟩;rw[Int.toNat_natCast]
       have:∀n:Nat,n<128→32≤n→n≠92→n≠39→n≠127→strU (esc1 (UInt8.ofNat n))=Utf8.encode (n:Int):=by decide
       rw[this n (by omega) (by omega) (by omega) (by omega) (by omega)]
      have HE:Hid _:=he;clear he
      go_wp2
      go_ret;refine⟨?_,HG.out⟩;rw[HE.out];rfl
     ·go_wp2
      go_ret;exact⟨rfl,HG.out⟩
end
end Go.Proofs.YthmdjhfbhbheeaaGreatDoor
