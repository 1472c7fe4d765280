import Derived.Test.YthmdjhfbhbheeaaGreatDoorKey6
namespace Go.Proofs.YthmdjhfbhbheeaaGreatDoor
open Go.Proofs.Tryz
set_option maxHeartbeats 16000000
set_option maxRecDepth 100000
section
open Go.RowKit Go.Shelf Go.PlainAid Go.Lib
def byN(m:Int):Nat:=if m≤10 then(47+m).toNat else(86+m).toNat
theorem zUp(x:Int)(h:chP x):byN (chN x)=x.toNat:=by
 unfold chP at h;unfold byN chN
 split<;>split<;>omega
theorem zWT(m:Int)(h1:1≤m)(h2:m≤36)(w:World):Calls prog 148 #[.int .i64 m] w fun e w'=>e=.returned (bv (byN m))∧w'=w:=by
 by_cases h:m≤10
 ·have e:((byN m:Nat):Int)=47+m:=by unfold byN;rw[if_pos h];omega
  show Calls prog 148 #[.int .i64 m] w fun e w'=>e=.returned (.int .u8 ((byN m:Nat):Int))∧w'=w;rw[e]
  go_enter func148,ntmps148
  go_wp2
  go_ret;exact⟨congrArg (fun z=>Ending.returned (Value.int .u8 z)) (by omega),rfl⟩
 ·have e:((byN m:Nat):Int)=86+m:=by unfold byN;rw[if_neg h];omega
  show Calls prog 148 #[.int .i64 m] w fun e w'=>e=.returned (.int .u8 ((byN m:Nat):Int))∧w'=w;rw[e]
  go_enter func148,ntmps148
  go_wp2
  go_ret;exact⟨congrArg (fun z=>Ending.returned (Value.int .u8 z)) (by omega),rfl⟩
def PNm(n:Int)(k:Nat)(xs:List Nat):Prop:=∀s0,zAZ s0→zAo s0 8=n→xs=(pre s0 s0.size).drop (8-k)
theorem zI1(n:Int):PNm n 0 []:=fun s0 h _=>by
 rw[List.drop_of_length_le (by rw[zCD];have:=h.2.1;omega)]
theorem zVF(s:ByteArray)(m i:Nat)(h:i<m):(pre s m)[i]?=some (bt s i).toNat:=by simp[pre,h]
theorem zMp{n:Int}{k:Nat}(hk:k<8)(s0:ByteArray)(h:zAZ s0)(he:zAo s0 8=n):n/37^k%37=(if 7-k<s0.size then chN (bt s0 (7-k))else 0):=by
 have:=zMt s0 h 8 k hk (Nat.le_refl _);rw[he] at this;exact this
theorem zMn{n:Int}{k:Nat}{xs:List Nat}(hk:k<8)(hp:PNm n k xs)(hd:n/37^k%37=0):PNm n (k+1) xs:=by
 intro s0 h he;have h1:=zMp hk s0 h he;have h2:=hp s0 h he;rw[hd] at h1
 have h3:¬7-k<s0.size:=fun hlt=>by
  rw[if_pos hlt] at h1;have:=zFy _ (h.2.2.2 _ hlt);omega
 rw[h2,List.drop_of_length_le (by rw[zCD];omega),List.drop_of_length_le (by rw[zCD];omega)]
theorem zMo{n:Int}{k:Nat}{xs:List Nat}(hk:k<8)(hp:PNm n k xs)(hd:n/37^k%37≠0):PNm n (k+1) (byN (n/37^k%37)::xs):=by
 intro s0 h he;have h1:=zMp hk s0 h he;have h2:=hp s0 h he
 have h3:7-k<s0.size:=Decidable.by_contra fun hlt=>by rw[if_neg hlt] at h1;exact hd h1
 rw[if_pos h3] at h1;rw[h1,zUp _ (h.2.2.2 _ h3),h2];have h4:(pre s0 s0.size)[7-k]?=some (bt s0 (7-k)).toNat:=zVF s0 _ _ h3;have e5:=List.drop_eq_getElem_cons (l:=pre s0 s0.size) (i:=7-k) (by rw[zCD];exact h3);rw[show 7-k+1=8-k by omega] at e5;rw[show 8-(k+1)=7-k by omega,e5]
 congr 1
 have:=List.getElem?_eq_getElem (l:=pre s0 s0.size) (i:=7-k) (by rw[zCD];exact h3);rw[h4] at this;exact Option.some.inj this
def UNP(n:Int)(s:ByteArray):Prop:=∀s0,zAZ s0→zAo s0 8=n→s=s0
theorem zQ8{n:Int}{xs:List Nat}(hp:PNm n 8 xs):UNP n (strN xs):=fun s0 h he=>by
 rw[hp s0 h he];exact zEm s0
theorem zVy(n:Int)(h:0≤n)(k:Nat):0≤n/37^k∧n/37^(k+1)=n/37^k/37:=by
 have hp:(0:Int)<37^k:=Int.pow_pos (by decide);exact⟨Int.ediv_nonneg h (by omega),by rw[Int.pow_succ,Int.ediv_ediv_of_nonneg (by omega)]⟩
theorem zSb{w:World}{g at_:Nat}{xs:List Nat}(h:at_+xs.length=8)(hc:∀j d,xs[j]?=some d→w.cell? ⟨g,at_+j,none⟩=some (bv d))(_:at_≠8):RowB w (.slice (some ⟨g,at_,none⟩) (8-at_) (8-at_)) xs:=
 ⟨_,8-at_,by congr 1;omega,by omega,fun i d hi=>⟨g,at_,rfl,hc i d hi⟩⟩
theorem zWm(n:Int)(h:n<0)(w:World):Calls prog 109 #[.int .i64 n] w fun e w'=>∃xs,e=.returned (.string (strN xs))∧UNP n (strN xs)∧xs.length≤8∧G w w':=by
 have HP:Hid (UNP n (strN [])):=fun s0 h0 he=>by have:=(zBf s0 h0 8).1;omega
 go_enter func109,ntmps109
 go_wp2
 go_ret;exact⟨[],rfl,HP.out,by simp,G.refl _⟩
theorem zWl(n:Int)(h:0≤n)(h2:n≤9223372036854775807)(w:World):Calls prog 109 #[.int .i64 n] w fun e w'=>∃xs,e=.returned (.string (strN xs))∧UNP n (strN xs)∧xs.length≤8∧G w w':=by
 have hn:¬n<0:=by omega
 go_enter func109,ntmps109
 go_wp2
 go_loopw [0,4,7] (fun m a i W=>∃(k:Nat) (xs:List Nat),k≤8∧xs.length≤k∧i=.int .i64 k∧m=.int .i64 (n/37^k)∧a=.int .i64 ((8-xs.length:Nat):Int)∧PNm n k xs∧G w W∧(∀j,j<8→∃u,W.cell? ⟨w.heap.size,j,none⟩=some u)∧(∀j,W.frozen? ⟨w.heap.size,j,none⟩=false)∧∀j d,xs[j]?=some d→W.cell? ⟨w.heap.size,8-xs.length+j,none⟩=some (bv d)) (fun _ _ i _=>8-(RowKit.intOf i).toNat)
 case atStart=>
  refine⟨0,[],by omega,by simp,rfl,by simp,rfl,zI1 n,(G.refl w).alloc _,fun j hj=>?_,fun j=>by simp,fun j d hj=>by simp at hj⟩
  have:j=0∨j=1∨j=2∨j=3∨j=4∨j=5∨j=6∨j=7:=by omega
  rcases this with rfl|rfl|rfl|rfl|rfl|rfl|rfl|rfl<;>exact⟨_,by simp;rfl⟩
 case round=>
  obtain⟨k,xs,hk,hx,rfl,rfl,rfl,hp,hG,hex,hfz,hcs⟩:=hrel;obtain⟨hq0,hq1⟩:=zVy n h k;have HG:Hid _:=hG;have HP:Hid (PNm n k xs):=hp;have HC:Hid _:=hcs;have HX:Hid _:=hex;have HQ:Hid _:=hq1;clear hG hp hcs hex hq1
  by_cases hlt:k<8
  ·have hki:(k:Int)<8:=by omega
   have hqle:n/37^k≤9223372036854775807:=Int.le_trans (Int.ediv_le_self _ h) h2
   by_cases hz:n/37^k%37=0
   ·have HPP:Hid _:=zMn hlt HP.out hz
    generalize n/37^k=q at hq0 hz HQ hqle
    go_wp2
    go_roundw
    case rel=>exact⟨k+1,xs,by omega,by omega,by go_num,by rw[HQ.out],rfl,HPP.out,HG.out,HX.out,hfz,HC.out⟩
    case measure=>simp[RowKit.intOf];omega
   ·have HPP:Hid _:=zMo hlt HP.out hz
    generalize n/37^k=q at hq0 hz HQ hqle HPP
    have hm1:1≤q%37:=by omega
    have hm2:q%37≤36:=by omega
    have HBo:Hid _:=zWT (q%37) hm1 hm2;obtain⟨a0,ha0⟩:∃a0:Nat,8-xs.length=a0+1:=⟨7-xs.length,by omega⟩
    have ha8:(a0:Int)<8:=by omega
    obtain⟨u,hu⟩:=HX.out a0 (by omega);have hf0:=hfz a0;have HFZ:Hid _:=hfz;have HA0:Hid _:=ha0;rw[ha0];clear hfz ha0;generalize hd':byN (q%37)=d' at HBo HPP;have hne':((q%37) != 0)=true:=bne_iff_ne.2 hz;clear hd'
    go_wp2_with fail
    refine(HBo.out _).mono ?_;rintro e w1 ⟨rfl,hw1⟩;rw[hw1];clear hw1
    go_wp2
    go_roundw
    case rel=>
     refine⟨k+1,d'::xs,by omega,by simp;omega,by go_num,by rw[HQ.out],?_,HPP.out,HG.out.setCell (Nat.le_refl _) _,fun j hj=>?_,fun j=>by rw[World.frozen?_setCell];exact HFZ.out j,fun j d hj=>?_⟩
     ·have:=HA0.out
      show Value.int .i64 _=Value.int .i64 _
      congr 1
      simp;omega
     ·by_cases e:j=a0
      ·subst e;exact⟨_,World.cell?_setCell_same _ _ _ hu⟩
      ·obtain⟨u',hu'⟩:=HX.out j hj
       exact⟨u',by rw[World.cell?_setCell_other _ _ _ _ (by intro he;have:=congrArg Addr.off he;simp at this;omega)];exact hu'⟩
     ·have h8:=HA0.out
      have hl8:8-(d'::xs).length=a0:=by simp;omega
      rw[hl8]
      cases j with
      | zero=>
       simp at hj;subst hj;exact World.cell?_setCell_same _ _ _ hu
      | succ j=>
       rw[World.cell?_setCell_other _ _ _ _ (by intro he;have:=congrArg Addr.off he;simp at this)];have:=HC.out j d (by simpa using hj)
       rwa [h8,show a0+1+j=a0+(j+1) by omega] at this
    case measure=>simp[RowKit.intOf];omega
  ·have e:k=8:=by omega
   subst e;have HU:Hid _:=zQ8 HP.out
   by_cases hx0:xs.length=0
   ·have hxn:xs=[]:=List.eq_nil_of_length_eq_zero hx0
    subst hxn;have hcv:(convert 33 9 (.slice (some ⟨w.heap.size,0,none⟩) 0 0)).run prog wr=.ok (.string (strN [])) wr:=zBA ⟨_,0,rfl,Nat.le_refl _,fun i d h=>by simp at h⟩
    go_wp2
    go_ret;exact⟨[],rfl,HU.out,by simp,HG.out⟩
   ·obtain⟨a0,ha0⟩:∃a0:Nat,8-xs.length=a0:=⟨_,rfl⟩
    have ha8:¬8=a0:=by omega
    have ha8':¬a0=8:=by omega
    have ha8i:(a0:Int)≤8:=by omega
    have hrow:RowB wr (.slice (some ⟨w.heap.size,a0,none⟩) (8-a0) (8-a0)) xs:=zSb (by omega) (fun j d hj=>by have:=HC.out j d hj;rwa [ha0] at this) ha8';have hcv:=zBA hrow
    have hxl:xs.length≤8:=by omega
    rw[ha0];clear hrow ha0 hx hx0
    go_wp2
    go_ret;exact⟨xs,rfl,HU.out,hxl,HG.out⟩
end
section
open Go.RowKit Go.Shelf Go.PlainAid Go.Lib
def UAns(n:Int)(s:ByteArray)(c:Int):Prop:=
 (zAZ s∧zAo s 8=n∧UNP n s∧c=0)∨((∀s0,zAZ s0→zAo s0 8≠n)∧s=E0∧c=1)
theorem UAns.one{n c c':Int}{s s':ByteArray}(h:UAns n s c)(h':UAns n s' c'):s=s'∧c=c':=by
 rcases h with ⟨h1,h2,h3,rfl⟩|⟨h1,rfl,rfl⟩
 ·rcases h' with ⟨g1,g2,_,rfl⟩|⟨g1,_⟩
  ·exact⟨h3 s' g1 g2,rfl⟩
  ·exact absurd h2 (g1 s h1)
 ·rcases h' with ⟨g1,g2,_⟩|⟨_,rfl,rfl⟩
  ·exact absurd g2 (h1 s' g1)
  ·exact⟨rfl,rfl⟩
theorem zFH{n:Int}{s:ByteArray}(h:UNP n s)(hn:zAY s=false∨zAo s 8≠n):UAns n E0 1:=by
 refine .inr ⟨fun s0 h0 he=>?_,rfl,rfl⟩;have e:=h s0 h0 he;subst e
 rcases hn with hn|hn
 ·rw[(zBh s).2 h0] at hn;cases hn
 ·exact hn he
def UAA(n:Int)(w:World)(e:Ending)(w':World):Prop:=∃(s:ByteArray) (c:Int),e=.returned (.tuple #[.string s,.int .i64 c])∧UAns n s c∧G w w'
theorem zTO(n:Int)(h1:-9223372036854775808≤n)(h2:n≤9223372036854775807)(w:World):Calls prog 109 #[.int .i64 n] w fun e w'=>∃xs,e=.returned (.string (strN xs))∧UNP n (strN xs)∧xs.length≤8∧G w w':=by
 by_cases h:n<0
 ·exact zWm n h w
 ·exact zWl n (by omega) h2 w
theorem zUF(n:Int)(h1:-9223372036854775808≤n)(h2:n≤9223372036854775807)(w:World):Calls prog 68 #[.int .i64 n] w (UAA n w):=by
 have H1:Hid _:=zTO n h1 h2;clear h1 h2
 go_enter func68,ntmps68
 go_wp2_with fail
 refine(H1.out _).mono ?_;rintro e w1 ⟨xs,rfl,hu,hx,hb1⟩;generalize strN xs=s at hu;have HN:Hid _:=zAE s;have HG:Hid (G w w1):=hb1;have HU:Hid _:=hu;clear hb1 hu H1 hx;cases hnb:zAY s
 ·have HA:Hid (UAns n E0 1):=zFH HU.out (.inl hnb)
  rw[hnb] at HN;clear hnb
  go_wp2_with fail
  refine(HN.out _).mono ?_;rintro e w2 ⟨rfl,hw⟩;rw[hw];clear hw
  go_wp2
  go_ret2
  exact⟨E0,1,rfl,HA.out,HG.out⟩
 ·have hnp:=zDL hnb
  have HP:Hid _:=zI2 s hnp;rw[hnb] at HN
  by_cases hpn:zAo s 8=n
  ·have HA:Hid (UAns n s 0):=.inl ⟨hnp,hpn,HU.out,rfl⟩
   rw[hpn] at HP;clear hnb hnp hpn
   go_wp2_with fail
   refine(HN.out _).mono ?_;rintro e w2 ⟨rfl,hw⟩;rw[hw];clear hw
   go_wp2_with fail
   refine(HP.out _).mono ?_;rintro e w2 ⟨rfl,hw⟩;rw[hw];clear hw
   go_wp2
   go_ret2
   exact⟨s,0,rfl,HA.out,HG.out⟩
  ·have HA:Hid (UAns n E0 1):=zFH HU.out (.inr hpn)
   generalize zAo s 8=q at HP hpn;have hqn:(q != n)=true:=bne_iff_ne.2 hpn;clear hnb hnp
   go_wp2_with fail
   refine(HN.out _).mono ?_;rintro e w2 ⟨rfl,hw⟩;rw[hw];clear hw
   go_wp2_with fail
   refine(HP.out _).mono ?_;rintro e w2 ⟨rfl,hw⟩;rw[hw];clear hw
   go_wp2
   go_ret2
   exact⟨E0,1,rfl,HA.out,HG.out⟩
theorem zLu(d:Nat)(xs:List Nat):strN [d]++strN xs=strN (d::xs):=by
 have h:(strN [d]++strN xs).data.toList=(strN (d::xs)).data.toList:=by
  have e:∀l:List Nat,(strN l).data.toList=l.map UInt8.ofNat:=fun l=>by
   have:=strOfNums_toList (l.map fun d:Nat=>(d:Int));rw[ByteArray.toList_eq] at this;show(strOfNums _).data.toList=_;rw[this];simp[bytesOf]
  rw[ByteArray.data_append,Array.toList_append,e,e,e];rfl
 cases h1:strN [d]++strN xs with
 | mk a=>cases h2:strN (d::xs)with
  | mk b=>
   rw[h1,h2] at h
   congr 1
   exact Array.toList_inj.1 h
theorem zGx{n:Int}(h:n<1∨4398046511104≤n):UAns n E0 1:=by
 refine .inr ⟨fun s0 h0 he=>?_,rfl,rfl⟩;have h1:=zFW s0 h0 8 (Nat.le_refl _);have h2:=zMp (k:=7) (by omega) s0 h0 he;have h3:=zFy _ (h0.2.2.2 0 h0.1);rw[if_pos (by have:=h0.1;omega)] at h2;simp only[show 7-7=0 by omega] at h2;rw[he] at h1
 rcases h with h|h
 ·have e:n=0:=by omega
  rw[e] at h2;simp at h2;omega
 ·omega
theorem zRZ(n:Int)(h:n<1)(w:World):Calls prog 69 #[.int .i64 n] w (UAA n w):=by
 have HA:Hid (UAns n E0 1):=zGx (.inl h)
 go_enter func69,ntmps69
 go_wp2
 go_ret2
 exact⟨E0,1,rfl,HA.out,G.refl _⟩
theorem zOy(n:Int)(h:¬n<1)(h2:4398046511104≤n)(w:World):Calls prog 69 #[.int .i64 n] w (UAA n w):=by
 have HA:Hid (UAns n E0 1):=zGx (.inr h2)
 go_enter func69,ntmps69
 go_wp2
 go_ret2
 exact⟨E0,1,rfl,HA.out,G.refl _⟩
end
section
open Go.RowKit Go.Shelf Go.PlainAid Go.Lib
theorem zE9(xs:List Nat):(strN xs).size=xs.length:=by
 have e:(strN xs).toList=bytesOf (xs.map fun d:Nat=>(d:Int)):=strOfNums_toList _
 have h2:(strN xs).toList.length=(strN xs).size:=by rw[ByteArray.toList_eq];simp
 rw[←h2,e];simp[bytesOf]
theorem zJd(W:World)(z:Int)(d:Nat)(h:z=(d:Int)):(convert 33 9 (.slice (some ⟨W.heap.size,0,none⟩) 1 1)).run prog (W.alloc (.cells #[.int .u8 z] 5))=.ok (.string (strN [d])) (W.alloc (.cells #[.int .u8 z] 5)):=by
 subst h
 exact zBA ⟨_,1,rfl,Nat.le_refl _,fun i e hi=>⟨W.heap.size,0,rfl,by
  match i,hi with
  | 0,hi=>simp at hi;subst hi;simp⟩⟩
theorem zUU(n:Int)(h:¬n<1)(h2:¬4398046511104≤n)(w:World):Calls prog 69 #[.int .i64 n] w (UAA n w):=by
 have h0:0≤n:=by omega
 go_enter func69,ntmps69
 go_wp2
 go_loopw [4,5,6,7] (fun s m i _ W=>∃(k:Nat) (xs:List Nat),k≤8∧xs.length≤k∧i=.int .i64 k∧m=.int .i64 (n/37^k)∧s=.string (strN xs)∧PNm n k xs∧G w W) (fun _ _ i _ _=>8-(RowKit.intOf i).toNat)
 case atStart=>exact⟨0,[],by omega,by simp,rfl,by simp,rfl,zI1 n,G.refl _⟩
 case round=>
  obtain⟨k,xs,hk,hx,rfl,rfl,rfl,hp,hG⟩:=hrel;obtain⟨hq0,hq1⟩:=zVy n h0 k;have HG:Hid _:=hG;have HP:Hid (PNm n k xs):=hp;have HQ:Hid _:=hq1;have hsz:=zE9 xs;clear hG hp hq1
  by_cases hlt:k<8
  ·have hki:(k:Int)<8:=by omega
   have hqle:n/37^k≤4398046511104:=Int.le_trans (Int.ediv_le_self _ h0) (by omega)
   by_cases hz:n/37^k%37=0
   ·have HPP:Hid _:=zMn hlt HP.out hz
    generalize n/37^k=q at hq0 hz HQ hqle
    by_cases hxn:xs=[]
    ·subst hxn
     have hse:strN []=E0:=rfl;rw[hse]
     go_wp2
     go_roundw
     case rel=>exact⟨k+1,[],by omega,by simp,by go_num,by rw[HQ.out],rfl,HPP.out,HG.out⟩
     case measure=>simp[RowKit.intOf];omega
    ·have HA:Hid (UAns n E0 1):=by
      refine .inr ⟨fun s0 h0 he=>?_,rfl,rfl⟩;have h1:=HP.out s0 h0 he;have h2:=HPP.out s0 h0 he
      have h3:8-k≥s0.size∨8-k<s0.size:=by omega
      rcases h3 with h3|h3
      ·exact hxn (by rw[h1,List.drop_of_length_le (by rw[zCD];omega)])
      ·have e1:=congrArg List.length h1
       have e2:=congrArg List.length h2;rw[List.length_drop,zCD] at e1 e2;omega
     have hsn:((strN xs).toList==E0.toList)=false:=by
      refine beq_false_of_ne fun he=>hxn ?_;have h1:=congrArg List.length he
      have h2:(strN xs).toList.length=(strN xs).size:=by rw[ByteArray.toList_eq];simp
      have h3:E0.toList.length=0:=by simp[ByteArray.toList_eq]
      rw[h2,hsz,h3] at h1;exact List.eq_nil_of_length_eq_zero h1
     have hs4:¬(strN xs).toList=[]:=fun he=>hxn (by
      have h2:(strN xs).toList.length=(strN xs).size:=by rw[ByteArray.toList_eq];simp
      rw[he,hsz] at h2
      exact List.eq_nil_of_length_eq_zero h2.symm)
     have hs5:(strN xs).toList.isEmpty=false:=by
      cases h:(strN xs).toList with
      | nil=>exact absurd h hs4
      | cons _ _=>rfl
     generalize strN xs=S at hsn hsz hs4 hs5
     go_wp2
     go_ret2
     exact⟨E0,1,rfl,HA.out,HG.out⟩
   ·have HPP:Hid _:=zMo hlt HP.out hz
    generalize n/37^k=q at hq0 hz HQ hqle HPP;have hs1:=zE9 [byN (q%37)]
    have hadd:∀W,(Op.stringOp .add (strN [byN (q%37)]) (strN xs)).run prog W=.ok (.string (strN (byN (q%37)::xs))) W:=fun W=>by
     rw[run_string_add_sum W _ _ (by rw[hs1,hsz];simp;omega),zLu]
    by_cases h10:10<q%37
    ·have hcv:=zJd wr (97+q%37-11) (byN (q%37)) (by unfold byN;rw[if_neg (by omega)];omega)
     generalize byN (q%37)=d at hcv hadd HPP hs1
     go_wp2
     go_roundw
     case rel=>exact⟨k+1,d::xs,by omega,by simp;omega,by go_num,by rw[HQ.out],rfl,HPP.out,G.alloc HG.out _⟩
     case measure=>simp[RowKit.intOf];omega
    ·have hcv:=zJd wr (48+q%37-1) (byN (q%37)) (by unfold byN;rw[if_pos (by omega)];omega)
     have hpos:0<q%37:=by omega
     generalize byN (q%37)=d at hcv hadd HPP hs1
     go_wp2
     go_roundw
     case rel=>exact⟨k+1,d::xs,by omega,by simp;omega,by go_num,by rw[HQ.out],rfl,HPP.out,G.alloc HG.out _⟩
     case measure=>simp[RowKit.intOf];omega
  ·have e:k=8:=by omega
   subst e;have HU:Hid _:=zQ8 HP.out;generalize strN xs=s at HU hsz;cases hnb:zAY s
   ·have HA:Hid (UAns n E0 1):=zFH HU.out (.inl hnb)
    have HR:Hid _:=zFo s hnb;clear hnb
    go_wp2_with fail
    refine(HR.out _).mono ?_;rintro e w2 ⟨rfl,hw⟩;rw[hw];clear hw
    go_wp2
    go_ret2
    exact⟨E0,1,rfl,HA.out,HG.out⟩
   ·have hnp:=zDL hnb
    have HR:Hid _:=zBe s hnp
    by_cases hpn:zAo s 8=n
    ·have HA:Hid (UAns n s 0):=.inl ⟨hnp,hpn,HU.out,rfl⟩
     rw[hpn] at HR;clear hnb hnp hpn
     go_wp2_with fail
     refine(HR.out _).mono ?_;rintro e w2 ⟨rfl,hw⟩;rw[hw];clear hw
     go_wp2
     go_ret2
     exact⟨s,0,rfl,HA.out,HG.out⟩
    ·have HA:Hid (UAns n E0 1):=zFH HU.out (.inr hpn)
     generalize zAo s 8=q at HR hpn;have hqn:(q != n)=true:=bne_iff_ne.2 hpn;clear hnb hnp
     go_wp2_with fail
     refine(HR.out _).mono ?_;rintro e w2 ⟨rfl,hw⟩;rw[hw];clear hw
     go_wp2
     go_ret2
     exact⟨E0,1,rfl,HA.out,HG.out⟩
theorem zR1(n:Int)(w:World):Calls prog 69 #[.int .i64 n] w (UAA n w):=by
 by_cases h:n<1
 ·exact zRZ n h w
 ·by_cases h2:4398046511104≤n
  ·exact zOy n h h2 w
  ·exact zUU n h h2 w
end
section
open Go.RowKit Go.PlainAid Go.Lib Go.Shelf
theorem zMs(s:ByteArray):∃(n c:Int),(∀w,Calls prog 66 #[.string s] w fun e w'=>e=.returned (.tuple #[.int .i64 n,.int .i64 c])∧w'=w)∧(∀w,Calls prog 67 #[.string s] w fun e w'=>e=.returned (.tuple #[.int .i64 n,.int .i64 c])∧w'=w):=by
 cases h:zAY s
 ·exact⟨0,73,zYI s h,zFo s h⟩
 ·have p:=(zBh s).1 h
  exact⟨zAo s 8,0,zW4 s p,zBe s p⟩
theorem zFZ(w:World)(ty:TypeId)(F:Nat→Nat):(w.alloc (.cells #[.int .u8 0,.int .u8 0,.int .u8 0,.int .u8 0,.int .u8 0,.int .u8 0,.int .u8 0,.int .u8 0,.int .u8 0,.int .u8 0,.int .u8 0,.int .u8 0,.int .u8 0,.int .u8 0,.int .u8 0,.int .u8 0,.int .u8 0,.int .u8 0,.int .u8 0,.int .u8 0,.int .u8 0,.int .u8 0,.int .u8 0,.int .u8 0] ty)).there w.heap.size 0 24∧G w ((w.alloc (.cells #[.int .u8 0,.int .u8 0,.int .u8 0,.int .u8 0,.int .u8 0,.int .u8 0,.int .u8 0,.int .u8 0,.int .u8 0,.int .u8 0,.int .u8 0,.int .u8 0,.int .u8 0,.int .u8 0,.int .u8 0,.int .u8 0,.int .u8 0,.int .u8 0,.int .u8 0,.int .u8 0,.int .u8 0,.int .u8 0,.int .u8 0,.int .u8 0] ty)).setCells w.heap.size 0 (cellsOf F).toArray.toList)∧((w.alloc (.cells #[.int .u8 0,.int .u8 0,.int .u8 0,.int .u8 0,.int .u8 0,.int .u8 0,.int .u8 0,.int .u8 0,.int .u8 0,.int .u8 0,.int .u8 0,.int .u8 0,.int .u8 0,.int .u8 0,.int .u8 0,.int .u8 0,.int .u8 0,.int .u8 0,.int .u8 0,.int .u8 0,.int .u8 0,.int .u8 0,.int .u8 0,.int .u8 0] ty)).setCells w.heap.size 0 (cellsOf F).toArray.toList).rangeAt w.heap.size 0 (cellsOf F)∧
  w.heap.size<((w.alloc (.cells #[.int .u8 0,.int .u8 0,.int .u8 0,.int .u8 0,.int .u8 0,.int .u8 0,.int .u8 0,.int .u8 0,.int .u8 0,.int .u8 0,.int .u8 0,.int .u8 0,.int .u8 0,.int .u8 0,.int .u8 0,.int .u8 0,.int .u8 0,.int .u8 0,.int .u8 0,.int .u8 0,.int .u8 0,.int .u8 0,.int .u8 0,.int .u8 0] ty)).setCells w.heap.size 0 (cellsOf F).toArray.toList).heap.size:=by
 have ht:(w.alloc (.cells #[.int .u8 0,.int .u8 0,.int .u8 0,.int .u8 0,.int .u8 0,.int .u8 0,.int .u8 0,.int .u8 0,.int .u8 0,.int .u8 0,.int .u8 0,.int .u8 0,.int .u8 0,.int .u8 0,.int .u8 0,.int .u8 0,.int .u8 0,.int .u8 0,.int .u8 0,.int .u8 0,.int .u8 0,.int .u8 0,.int .u8 0,.int .u8 0] ty)).there w.heap.size 0 24:=fun j hj=>by
  have e:(w.alloc (.cells #[.int .u8 0,.int .u8 0,.int .u8 0,.int .u8 0,.int .u8 0,.int .u8 0,.int .u8 0,.int .u8 0,.int .u8 0,.int .u8 0,.int .u8 0,.int .u8 0,.int .u8 0,.int .u8 0,.int .u8 0,.int .u8 0,.int .u8 0,.int .u8 0,.int .u8 0,.int .u8 0,.int .u8 0,.int .u8 0,.int .u8 0,.int .u8 0] ty)).cell? ⟨w.heap.size,j,none⟩=(#[.int .u8 0,.int .u8 0,.int .u8 0,.int .u8 0,.int .u8 0,.int .u8 0,.int .u8 0,.int .u8 0,.int .u8 0,.int .u8 0,.int .u8 0,.int .u8 0,.int .u8 0,.int .u8 0,.int .u8 0,.int .u8 0,.int .u8 0,.int .u8 0,.int .u8 0,.int .u8 0,.int .u8 0,.int .u8 0,.int .u8 0,.int .u8 0]:Array Value)[j]?:=by simp
  rw[Nat.zero_add,e,zLa j hj];exact⟨rfl,by simp⟩
 have hr:((w.alloc (.cells #[.int .u8 0,.int .u8 0,.int .u8 0,.int .u8 0,.int .u8 0,.int .u8 0,.int .u8 0,.int .u8 0,.int .u8 0,.int .u8 0,.int .u8 0,.int .u8 0,.int .u8 0,.int .u8 0,.int .u8 0,.int .u8 0,.int .u8 0,.int .u8 0,.int .u8 0,.int .u8 0,.int .u8 0,.int .u8 0,.int .u8 0,.int .u8 0] ty)).setCells w.heap.size 0 (cellsOf F)).rangeAt w.heap.size 0 (cellsOf F):=World.rangeAt_setCells_same _ _ _ _ (by rw[zAH];exact ht);exact⟨ht,G.setCells _ ((G.refl w).alloc _) (Nat.le_refl _),hr,World.block_lt_of_cell? _ ⟨w.heap.size,0,none⟩ (hr 0 (bv (F 0)) rfl)⟩
theorem zPL(op k a b:Int)(s:ByteArray)(k' a' b':Int)(s':ByteArray)(vs:Value)(st tt:ByteArray)(bb:Value)(n x y o1 o2:Int)(w:World):CG 24 #[.agg #[I 12,I op,I k,I a,I b,.string s,I k',I a',I b',.string s',vs,.string st,.string tt,bb,I n,I x,I y,I o1,I o2]] w (.bool true):=by
 obtain⟨p,c,h1,h2⟩:=zMs st;have H1:Hid _:=h1;have H2:Hid _:=h2;clear h1 h2
 go_enter func24,ntmps24
 go_wp2_with fail
 refine(H1.out _).mono ?_;rintro e w1 ⟨rfl,hw⟩;rw[hw];clear hw
 go_wp2_with fail
 refine(H2.out _).mono ?_;rintro e w2 ⟨rfl,hw⟩;rw[hw];clear hw
 go_wp2
 go_ret;exact⟨by simp,by repeat(first|exact G.refl _|assumption|refine G.alloc ?_ _|refine G.drew ?_|refine G.setCell ?_ (by simp) _|refine G.trans ?_ (by assumption))⟩
theorem zKQ(op k a b:Int)(s:ByteArray)(k' a' b':Int)(s':ByteArray)(vs:Value)(st tt:ByteArray)(bb:Value)(n x y o1 o2:Int)(h1:-9223372036854775808≤n)(h2:n≤9223372036854775807)(w:World):CG 24 #[.agg #[I 13,I op,I k,I a,I b,.string s,I k',I a',I b',.string s',vs,.string st,.string tt,bb,I n,I x,I y,I o1,I o2]] w (.bool true):=by
 have H1:Hid _:=zUF n h1 h2;have H2:Hid _:=zR1 n;clear h1 h2
 go_enter func24,ntmps24
 go_wp2_with fail
 refine(H1.out _).mono ?_;rintro e w1 ⟨s1,c1,rfl,hu1,hb1⟩;obtain⟨hc1,hf1⟩:=hb1.rules;have HU:Hid _:=hu1;clear hu1
 go_wp2_with fail
 refine(H2.out _).mono ?_;rintro e w2 ⟨s2,c2,rfl,hu2,hb2⟩;obtain⟨rfl,rfl⟩:=UAns.one HU.out hu2;clear hu2 HU
 go_wp2
 go_ret;exact⟨by simp,by repeat(first|exact G.refl _|assumption|refine G.alloc ?_ _|refine G.drew ?_|refine G.setCell ?_ (by simp) _|refine G.trans ?_ (by assumption))⟩
theorem zTB(op k a b:Int)(s:ByteArray)(k' a' b':Int)(s':ByteArray)(vs:Value)(st tt:ByteArray)(bb:Value)(n x y o1 o2:Int)(ha:R64 a)(hs:s.size≤4611686018427387904)(w:World)(hT:Tabs w):CG 24 #[.agg #[I 14,I op,I k,I a,I b,.string s,I k',I a',I b',.string s',vs,.string st,.string tt,bb,I n,I x,I y,I o1,I o2]] w (.bool true):=by
 obtain⟨F,c,h1,h2⟩:=zPN st tt k a b s n ha hs;have H1:Hid _:=h1;have H2:Hid _:=h2;have HT:Hid (Tabs w):=hT;clear h1 h2 ha hs hT;have hq:=zYm F
 go_enter func24,ntmps24
 go_wp2_with fail
 refine(H1.out _ (Tabs.G HT.out ((G.refl w).alloc _))).mono ?_;rintro e w1 ⟨rfl,hb1⟩;have hc1:∀o,w1.cell? {block:=w.heap.size,off:=o}=[I 14,I op,I k,I a,I b,.string s,I k',I a',I b',.string s',vs,.string st,.string tt,bb,I n,I x,I y,I o1,I o2][o]?:=G.cells hb1 (by simp) (by simp)
 have hz1:w.heap.size<w1.heap.size:=by have:=hb1.size;simp at this;omega
 have HG1:Hid (G w w1):=G.trans ((G.refl w).alloc _) hb1
 have hcl:(cellsOf F).toArray.size=24:=by simp[cellsOf]
 have HL:Hid _:=hcl;clear hb1 hcl
 go_wp2_with (refine wpList_store_mid rfl 93 _ _ rfl w1.heap.size 0 (cellsOf F).toArray rfl rfl (by rw[HL.out];exact(zFZ w1 93 F).1) (by rw[HL.out];kernel_rfl) (zCl F) ?_;have hl:=(zFZ w1 93 F).2;generalize (w1.alloc (.cells #[.int .u8 0,.int .u8 0,.int .u8 0,.int .u8 0,.int .u8 0,.int .u8 0,.int .u8 0,.int .u8 0,.int .u8 0,.int .u8 0,.int .u8 0,.int .u8 0,.int .u8 0,.int .u8 0,.int .u8 0,.int .u8 0,.int .u8 0,.int .u8 0,.int .u8 0,.int .u8 0,.int .u8 0,.int .u8 0,.int .u8 0,.int .u8 0] 93)).setCells w1.heap.size 0 (cellsOf F).toArray.toList=w2 at hl ⊢;have hc2:∀o,w2.cell? {block:=w.heap.size,off:=o}=[I 14,I op,I k,I a,I b,.string s,I k',I a',I b',.string s',vs,.string st,.string tt,bb,I n,I x,I y,I o1,I o2][o]?:=G.cells hl.1 hc1 hz1;have HL2:Hid _:=hl;clear hl)
 clear hc1;refine(H2.out _).mono ?_;rintro e w3 ⟨rfl,hb3⟩;have hz3:w1.heap.size<w3.heap.size:=Nat.lt_of_lt_of_le HL2.out.2.2 hb3.size;have HR1:Hid (w3.rangeAt w1.heap.size 0 (cellsOf F)):=zCB HL2.out.2.1 hb3;have HG3:Hid (G w w3):=G.trans (G.trans HG1.out HL2.out.1) hb3;clear hb3 hc2 HL2 HG1
 go_wp2_with (first|(refine wpList_store_mid rfl 92 _ _ rfl w3.heap.size 0 (cellsOf F).toArray rfl rfl (by rw[HL.out];exact(zFZ w3 92 F).1) (by rw[HL.out];kernel_rfl) (zCl F) ?_;have hl:=(zFZ w3 92 F).2;generalize (w3.alloc (.cells #[.int .u8 0,.int .u8 0,.int .u8 0,.int .u8 0,.int .u8 0,.int .u8 0,.int .u8 0,.int .u8 0,.int .u8 0,.int .u8 0,.int .u8 0,.int .u8 0,.int .u8 0,.int .u8 0,.int .u8 0,.int .u8 0,.int .u8 0,.int .u8 0,.int .u8 0,.int .u8 0,.int .u8 0,.int .u8 0,.int .u8 0,.int .u8 0] 92)).setCells w3.heap.size 0 (cellsOf F).toArray.toList=w4 at hl ⊢;have HR2:Hid (w4.rangeAt w3.heap.size 0 (cellsOf F)):=hl.2.1;have HR3:Hid (w4.rangeAt w1.heap.size 0 (cellsOf F)):=zCB HR1.out hl.1;have HG4:Hid (G w w4):=G.trans HG3.out hl.1;clear hl)|(refine wpList_load_mid rfl 93 _ rfl w1.heap.size 0 rfl (cellsOf F) _ HR3.out underlying93 rfl (by rw[zAH];kernel_rfl) ?_)|(refine wpList_load_mid rfl 92 _ rfl w3.heap.size 0 rfl (cellsOf F) _ HR2.out underlying92 rfl (by rw[zAH];kernel_rfl) ?_))
 go_ret;exact⟨by simp,HG4.out⟩
theorem zS3(e:Ent)(kk:e.kind=12∨e.kind=13∨e.kind=14)(hs:e.s.size≤4611686018427387904)(ha:R64 e.a)(hn:R64 e.n)(w:World)(hT:Tabs w):CG 7 #[e.V] w (.bool true):=by
 obtain⟨kind,op,k,a,b,s,k',a',b',s',vs,st,tt,bb,n,x,y,o1,o2⟩:=e;simp only at kk hs ha hn
 rcases kk with rfl|rfl|rfl
 ·have HF:Hid (∀w,Tabs w→CG 24 #[.agg #[I 12,I op,I k,I a,I b,.string s,I k',I a',I b',.string s',vs,.string st,.string tt,bb,I n,I x,I y,I o1,I o2]] w (.bool true)):=fun w _=>zPL op k a b s k' a' b' s' vs st tt bb n x y o1 o2 w
  clear hs ha hn
  have hr:(w.alloc (.cells #[I 12,I op,I k,I a,I b,.string s,I k',I a',I b',.string s',vs,.string st,.string tt,bb,I n,I x,I y,I o1,I o2] 35)).rangeAt w.heap.size 0 [I 12,I op,I k,I a,I b,.string s,I k',I a',I b',.string s',vs,.string st,.string tt,bb,I n,I x,I y,I o1,I o2]:=fun j v hv=>by rw[Nat.zero_add];simpa using hv
  go_enter func7,ntmps7
  go_wp2_with (first|(refine wpList_load_mid rfl 35 _ rfl w.heap.size 0 rfl [I 12,I op,I k,I a,I b,.string s,I k',I a',I b',.string s',vs,.string st,.string tt,bb,I n,I x,I y,I o1,I o2] _ hr underlying35 rfl (by kernel_rfl) ?_)|(go_at_call 24;refine(HF.out _ (hT.G ((G.refl w).alloc _))).mono ?_;rintro e w1 ⟨rfl,hb1⟩))
  go_wp2
  go_ret;exact⟨rfl,((G.refl w).alloc _).trans hb1⟩
 ·have HF:Hid (∀w,Tabs w→CG 24 #[.agg #[I 13,I op,I k,I a,I b,.string s,I k',I a',I b',.string s',vs,.string st,.string tt,bb,I n,I x,I y,I o1,I o2]] w (.bool true)):=fun w _=>zKQ op k a b s k' a' b' s' vs st tt bb n x y o1 o2 hn.1 hn.2 w
  clear hs ha hn
  have hr:(w.alloc (.cells #[I 13,I op,I k,I a,I b,.string s,I k',I a',I b',.string s',vs,.string st,.string tt,bb,I n,I x,I y,I o1,I o2] 35)).rangeAt w.heap.size 0 [I 13,I op,I k,I a,I b,.string s,I k',I a',I b',.string s',vs,.string st,.string tt,bb,I n,I x,I y,I o1,I o2]:=fun j v hv=>by rw[Nat.zero_add];simpa using hv
  go_enter func7,ntmps7
  go_wp2_with (first|(refine wpList_load_mid rfl 35 _ rfl w.heap.size 0 rfl [I 13,I op,I k,I a,I b,.string s,I k',I a',I b',.string s',vs,.string st,.string tt,bb,I n,I x,I y,I o1,I o2] _ hr underlying35 rfl (by kernel_rfl) ?_)|(go_at_call 24;refine(HF.out _ (hT.G ((G.refl w).alloc _))).mono ?_;rintro e w1 ⟨rfl,hb1⟩))
  go_wp2
  go_ret;exact⟨rfl,((G.refl w).alloc _).trans hb1⟩
 ·have HF:Hid (∀w,Tabs w→CG 24 #[.agg #[I 14,I op,I k,I a,I b,.string s,I k',I a',I b',.string s',vs,.string st,.string tt,bb,I n,I x,I y,I o1,I o2]] w (.bool true)):=zTB op k a b s k' a' b' s' vs st tt bb n x y o1 o2 ha hs
  clear hs ha hn
  have hr:(w.alloc (.cells #[I 14,I op,I k,I a,I b,.string s,I k',I a',I b',.string s',vs,.string st,.string tt,bb,I n,I x,I y,I o1,I o2] 35)).rangeAt w.heap.size 0 [I 14,I op,I k,I a,I b,.string s,I k',I a',I b',.string s',vs,.string st,.string tt,bb,I n,I x,I y,I o1,I o2]:=fun j v hv=>by rw[Nat.zero_add];simpa using hv
  go_enter func7,ntmps7
  go_wp2_with (first|(refine wpList_load_mid rfl 35 _ rfl w.heap.size 0 rfl [I 14,I op,I k,I a,I b,.string s,I k',I a',I b',.string s',vs,.string st,.string tt,bb,I n,I x,I y,I o1,I o2] _ hr underlying35 rfl (by kernel_rfl) ?_)|(go_at_call 24;refine(HF.out _ (hT.G ((G.refl w).alloc _))).mono ?_;rintro e w1 ⟨rfl,hb1⟩))
  go_wp2
  go_ret;exact⟨rfl,((G.refl w).alloc _).trans hb1⟩
theorem zHX(W:World)(hT:Tabs W)(e:Ent)(h:zDn W e)(h1:12≤e.kind)(h2:e.kind≤14)(w':World)(g:G W w'):Calls prog 7 #[e.V] w' fun r w''=>r=.returned (.bool true)∧G w' w'':=
 zS3 e (by omega) (by have:=h.s;unfold reachBytes at this;omega) h.a h.n w' (hT.G g)
end
end Go.Proofs.YthmdjhfbhbheeaaGreatDoor
