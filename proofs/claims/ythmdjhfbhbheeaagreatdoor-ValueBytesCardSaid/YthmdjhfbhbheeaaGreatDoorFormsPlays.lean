import Derived.Deep.MidRow
import Derived.Deep.Slices
import Derived.SizedLaws
import Derived.ProofKit
import Derived.Test.YthmdjhfbhbheeaaGreatDoorAsserts
namespace Go.Proofs.YthmdjhfbhbheeaaGreatDoor
open Go.Proofs.Tryz
set_option maxHeartbeats 2000000
set_option maxRecDepth 100000
section
open Go.RowKit Go.Lib Go.Shelf
def zAb(k a b:Int)(s:ByteArray):Value:=
 if okV k a b s=false then .nilIface
 else if k=0 then .iface 110 (.agg #[])
 else if k=1 then .iface 111 (.bool (a==1))
 else if k=2 then .iface 135 (.int .i64 a)
 else if k=3 then .iface 136 (.complex .f64 (fl a) (fl b))
 else if k=4 then .iface 137 (.string s)
 else if k=5 then .iface 138 (.int .i64 a)
 else .iface 139 (.int .i64 a)
theorem zBo(s:ByteArray):(E0.toList==s.toList)=s.toList.isEmpty:=by
 have:E0.toList=[]:=by simp[ByteArray.toList_eq]
 rw[this];cases s.toList<;>rfl
theorem zBu(a b:Int):(a==b)=(b==a):=by
 rw[Bool.eq_iff_iff,beq_iff_eq,beq_iff_eq];exact⟨Eq.symm,Eq.symm⟩
def zAv(k a b:Int)(s:ByteArray):Prop:=∀w,Tabs w→CG 25 #[V k a b s] w (.tuple #[zAb k a b s,.bool (okV k a b s)])
theorem zAv.yes{k a b:Int}{s:ByteArray}{x:Value}(ho:okV k a b s=true)(hx:zAb k a b s=x)(h:∀w,Tabs w→CG 25 #[V k a b s] w (.tuple #[x,.bool true])):zAv k a b s:=by
 intro w hT;rw[ho,hx];exact h w hT
theorem zAv.no{k a b:Int}{s:ByteArray}(ho:okV k a b s=false)(h:∀w,Tabs w→CG 25 #[V k a b s] w (.tuple #[.nilIface,.bool false])):zAv k a b s:=by
 intro w hT
 have:zAb k a b s=.nilIface:=by unfold zAb;rw[if_pos ho]
 rw[ho,this];exact h w hT
theorem zAy(n:Int):zAD n=true↔-33554432≤n∧n≤33554432:=by unfold zAD;simp
theorem zAi(k a b:Int)(s:ByteArray):zAv k a b s:=by
 by_cases hk:k<0∨6<k
 ·refine zAv.no ?_ (zEJ k a b s (zXV k a b s hk))
  unfold okV;rw[if_neg (by omega),if_neg (by omega),if_neg (by omega),if_neg (by omega),if_neg (by omega),if_neg (by omega)]
 have:k=0∨k=1∨k=2∨k=3∨k=4∨k=5∨k=6:=by omega
 rcases this with rfl|rfl|rfl|rfl|rfl|rfl|rfl
 ·have e:((((0:Int)==0)&&((0:Int)==a)&&((0:Int)==b)&&(E0.toList==s.toList)))=okV 0 a b s:=by
   rw[zBo,zBu 0 a,zBu 0 b];simp[okV]
  cases h:okV 0 a b s
  ·exact zAv.no h (zKT 0 a b s (e.trans h) (ik_0 a b s))
  ·exact zAv.yes h (by simp[zAb,h]) (zH0 0 a b s (e.trans h) (ik_0 a b s))
 ·by_cases h1:a=1
  ·subst h1
   have e:((((1:Int)==1)&&((1:Int)==1)&&((0:Int)==b)&&(E0.toList==s.toList)))=okV 1 1 b s:=by
    rw[zBo,zBu 0 b];simp[okV]
   have hk1:∀w,Tabs w→CG 72 #[V 1 1 b s] w (.iface 111 (.bool true)):=ik_1 1 b s;cases h:okV 1 1 b s
   ·exact zAv.no h (zPP 1 1 b s (e.trans h) hk1)
   ·exact zAv.yes h (by simp[zAb,h]) (zNm 1 1 b s (e.trans h) hk1)
  ·have f1:(a==1)=false:=by simpa using h1
   have e:((((1:Int)==1)&&((0:Int)==a)&&((0:Int)==b)&&(E0.toList==s.toList)))=okV 1 a b s:=by
    rw[zBo,zBu 0 a,zBu 0 b];simp[okV,f1]
   have hk1:∀w,Tabs w→CG 72 #[V 1 a b s] w (.iface 111 (.bool false)):=by
    have:=ik_1 a b s;rw[f1] at this;exact this
   cases h:okV 1 a b s
   ·exact zAv.no h (zPQ 1 a b s (e.trans h) hk1)
   ·exact zAv.yes h (by simp[zAb,h,h1]) (zNo 1 a b s (e.trans h) hk1)
 ·have e:((((2:Int)==2)&&((a:Int)==a)&&((0:Int)==b)&&(E0.toList==s.toList)))=okV 2 a b s:=by
   rw[zBo,zBu 0 b];simp[okV]
  cases h:okV 2 a b s
  ·exact zAv.no h (zHZ a 2 a b s (e.trans h) (ik_2 a b s))
  ·exact zAv.yes h (by simp[zAb,h]) (zGQ a 2 a b s (e.trans h) (ik_2 a b s))
 ·cases hp:zAD a
  ·exact zAv.no (by simp[okV,hp]) (zEJ 3 a b s (zX1 a b s hp))
  ·cases hq:zAD b
   ·exact zAv.no (by simp[okV,hq]) (zEJ 3 a b s (zX0 a b s hp hq))
   ·have pa:=(zAy a).1 hp;have pb:=(zAy b).1 hq
    have e:((((3:Int)==3)&&((a:Int)==a)&&((b:Int)==b)&&(E0.toList==s.toList)))=okV 3 a b s:=by
     rw[zBo];simp[okV,hp,hq]
    cases h:okV 3 a b s
    ·exact zAv.no h (zNp (fl a) (fl b) a b (Fl.ofInt a (by omega)) (Fl.ofInt b (by omega)) (by omega) (by omega) 3 a b s (e.trans h) (ik_3 a b s hp hq))
    ·exact zAv.yes h (by simp[zAb,h]) (zKW (fl a) (fl b) a b (Fl.ofInt a (by omega)) (Fl.ofInt b (by omega)) (by omega) (by omega) 3 a b s (e.trans h) (ik_3 a b s hp hq))
 ·by_cases hs:s.size≤32
  ·cases hv:validD s.data.toList
   ·exact zAv.no (by simp[okV,hv]) (zEJ 4 a b s (zXZ a b s hs hv))
   ·have e:((((4:Int)==4)&&((0:Int)==a)&&((0:Int)==b)&&(s.toList==s.toList)))=okV 4 a b s:=by
     rw[zBu 0 a,zBu 0 b];simp[okV,hs,hv]
    cases h:okV 4 a b s
    ·exact zAv.no h (zNn s 4 a b s (e.trans h) (ik_4 a b s hs hv))
    ·exact zAv.yes h (by simp[zAb,h]) (zKS s 4 a b s (e.trans h) (ik_4 a b s hs hv))
  ·exact zAv.no (by simp[okV,hs]) (zEJ 4 a b s (zXY a b s hs))
 ·cases hz:(a != 0)
  ·exact zAv.no (by simp[okV,hz]) (zEJ 5 a b s (zXX a b s hz))
  ·have e:((((5:Int)==5)&&((a:Int)==a)&&((0:Int)==b)&&(E0.toList==s.toList)))=okV 5 a b s:=by
    rw[zBo,zBu 0 b];simp[okV,hz]
   cases h:okV 5 a b s
   ·exact zAv.no h (zKU a 5 a b s (e.trans h) (ik_5 a b s hz))
   ·exact zAv.yes h (by simp[zAb,h]) (zH1 a 5 a b s (e.trans h) (ik_5 a b s hz))
 ·cases hz:(a != 0)
  ·exact zAv.no (by simp[okV,hz]) (zEJ 6 a b s (zXW a b s hz))
  ·have e:((((6:Int)==6)&&((a:Int)==a)&&((0:Int)==b)&&(E0.toList==s.toList)))=okV 6 a b s:=by
    rw[zBo,zBu 0 b];simp[okV,hz]
   cases h:okV 6 a b s
   ·exact zAv.no h (zKV a 6 a b s (e.trans h) (ik_6 a b s hz))
   ·exact zAv.yes h (by simp[zAb,h]) (zH2 a 6 a b s (e.trans h) (ik_6 a b s hz))
theorem zN9(k a b:Int)(s:ByteArray)(w:World)(hT:Tabs w):CG 30 #[V k a b s] w (.bool (okV k a b s)):=by
 have HI:Hid (∀w,Tabs w→CG 25 #[V k a b s] w (.tuple #[zAb k a b s,.bool (okV k a b s)])):=zAi k a b s;generalize zAb k a b s=x at HI;generalize okV k a b s=q at HI⊢
 go_enter func30,ntmps30
 go_wp2_with fail
 refine(HI.out _ (by exact hT.G ((G.refl w).alloc _))).mono ?_;rintro e w1 ⟨rfl,hb1⟩
 go_wp2
 go_ret;exact⟨rfl,((G.refl w).alloc _).trans hb1⟩
end
section
open Go.RowKit Go.PlainAid Go.Lib Go.Shelf
attribute [local go_sem] zB0 zCn zDB zEW zEV zHb zHc zBG zB4 zB3 zD1 zCQ zGi zGj zCm zB2 zAr zCP zA8 zGg zGh zDl zD2 zAN zC4 zB9 zIj zIk zDk zCS zCR zFA zAt zIh zIi zCT zDD zDC zEY zEX zHd zHe zCU zDF zDE zE0 zEZ zHf zHg
theorem zOo(u:Value)(w:World):CG 75 #[.iface 110 u] w (.bool false):=by
 go_enter func75,ntmps75
 go_wp2
 go_ret;exact⟨rfl,by repeat(first|exact G.refl _|refine G.alloc ?_ _|refine G.setCell ?_ (by simp) _)⟩
theorem zLs(u:Value)(w:World):CG 75 #[.iface 111 u] w (.bool true):=by
 go_enter func75,ntmps75
 go_wp2
 go_ret;exact⟨rfl,by repeat(first|exact G.refl _|refine G.alloc ?_ _|refine G.setCell ?_ (by simp) _)⟩
theorem zLr(u:Value)(w:World):CG 75 #[.iface 135 u] w (.bool true):=by
 go_enter func75,ntmps75
 go_wp2
 go_ret;exact⟨rfl,by repeat(first|exact G.refl _|refine G.alloc ?_ _|refine G.setCell ?_ (by simp) _)⟩
theorem zRW(u:Value)(w:World):CG 75 #[.iface 136 u] w (.bool true):=by
 go_enter func75,ntmps75
 go_wp2
 go_ret;exact⟨rfl,by repeat(first|exact G.refl _|refine G.alloc ?_ _|refine G.setCell ?_ (by simp) _)⟩
theorem zRV(u:Value)(w:World):CG 75 #[.iface 137 u] w (.bool true):=by
 go_enter func75,ntmps75
 go_wp2
 go_ret;exact⟨rfl,by repeat(first|exact G.refl _|refine G.alloc ?_ _|refine G.setCell ?_ (by simp) _)⟩
theorem zOp(u:Value)(w:World):CG 75 #[.iface 138 u] w (.bool false):=by
 go_enter func75,ntmps75
 go_wp2
 go_ret;exact⟨rfl,by repeat(first|exact G.refl _|refine G.alloc ?_ _|refine G.setCell ?_ (by simp) _)⟩
theorem zOq(u:Value)(w:World):CG 75 #[.iface 139 u] w (.bool false):=by
 go_enter func75,ntmps75
 go_wp2
 go_ret;exact⟨rfl,by repeat(first|exact G.refl _|refine G.alloc ?_ _|refine G.setCell ?_ (by simp) _)⟩
def stoV(k a b:Int)(s:ByteArray):Bool:=okV k a b s&&(decide (1≤k)&&decide (k≤4))
theorem zAp(k a b:Int)(s:ByteArray)(h:okV k a b s=true):0≤k∧k≤6:=by
 by_cases hk:0≤k∧k≤6
 ·exact hk
 ·exfalso
  unfold okV at h;rw[if_neg (by omega),if_neg (by omega),if_neg (by omega),if_neg (by omega),if_neg (by omega),if_neg (by omega)] at h;exact Bool.noConfusion h
theorem zEl(k a b:Int)(s:ByteArray)(h:okV k a b s=true)(w:World):CG 75 #[zAb k a b s] w (.bool (stoV k a b s)):=by
 have hk:=zAp k a b s h
 have:k=0∨k=1∨k=2∨k=3∨k=4∨k=5∨k=6:=by omega
 unfold zAb stoV;rw[h]
 rcases this with rfl|rfl|rfl|rfl|rfl|rfl|rfl
 ·exact zOo _ w
 ·exact zLs _ w
 ·exact zLr _ w
 ·exact zRW _ w
 ·exact zRV _ w
 ·exact zOp _ w
 ·exact zOq _ w
theorem zHj(k a b:Int)(s:ByteArray)(w:World)(hT:Tabs w):CG 31 #[V k a b s] w (.bool (stoV k a b s)):=by
 have HI:Hid (∀w,Tabs w→CG 25 #[V k a b s] w (.tuple #[zAb k a b s,.bool (okV k a b s)])):=zAi k a b s;have HS:Hid (okV k a b s=true→∀w,CG 75 #[zAb k a b s] w (.bool (stoV k a b s))):=fun h=>zEl k a b s h
 have HN:Hid (okV k a b s=false→stoV k a b s=false):=fun h=>by unfold stoV;rw[h];rfl
 generalize zAb k a b s=x at HI HS;generalize okV k a b s=q at HI HS HN;generalize stoV k a b s=t at HS HN⊢
 go_enter func31,ntmps31
 go_wp2_with fail
 refine(HI.out _ (by exact hT.G ((G.refl w).alloc _))).mono ?_;rintro e w1 ⟨rfl,hb1⟩;cases q
 ·have h:=HN.out rfl
  subst h
  go_wp2
  go_ret;exact⟨rfl,((G.refl w).alloc _).trans hb1⟩
 ·go_wp2_with fail
  refine(HS.out (by first|rfl|trivial) _).mono ?_;rintro e w2 ⟨rfl,hb2⟩
  go_wp2
  go_ret;exact⟨rfl,(((G.refl w).alloc _).trans hb1).trans hb2⟩
theorem zEs(k a b:Int)(s:ByteArray)(hs:s.size≤4611686018427387904)(w:World):CG 32 #[V k a b s] w (.bool (stoV k a b s)):=by
 have HI:Hid (∀w,CG 26 #[V k a b s] w (.bool (okV k a b s))):=zAm k a b s hs;unfold stoV;generalize okV k a b s=q at HI⊢
 go_enter func32,ntmps32
 go_wp2_with fail
 refine(HI.out _).mono ?_;rintro e w1 ⟨rfl,hb1⟩;have hc':=G.cells hb1 (b:=w.heap.size) (f:=fun o=>[Value.int IntKind.i64 k,Value.int IntKind.i64 a,Value.int IntKind.i64 b,Value.string s][o]?) (by simp) (by simp);cases q
 ·go_wp2
  go_ret;exact⟨zCc (by simp),((G.refl w).alloc _).trans hb1⟩
 ·by_cases h1:1≤k
  ·go_wp2
   all_goals (go_ret;exact⟨zCc (by simp[*]),((G.refl w).alloc _).trans hb1⟩)
  ·have h':decide (1≤k)=false:=by simp;omega
   go_wp2
   all_goals (go_ret;exact⟨zCc (by simp[*]),((G.refl w).alloc _).trans hb1⟩)
def chP(x:Int):Prop:=(97≤x∧x≤122)∨(48≤x∧x≤57)
def zAZ(s:ByteArray):Prop:=1≤s.size∧s.size≤8∧97≤bt s 0∧∀j,j<s.size→chP (bt s j)
noncomputable def zAY(s:ByteArray):Bool:=@decide (zAZ s) (Classical.propDecidable _)
theorem zGJ{s:ByteArray}(h:zAZ s):Ending.returned (.bool true)=.returned (.bool (zAY s)):=by
 have:zAY s=true:=@decide_eq_true _ (Classical.propDecidable _) h;rw[this]
theorem zBs{s:ByteArray}(h:¬zAZ s):Ending.returned (.bool false)=.returned (.bool (zAY s)):=by
 have:zAY s=false:=@decide_eq_false _ (Classical.propDecidable _) h;rw[this]
theorem zDL{s:ByteArray}(h:zAY s=true):zAZ s:=@of_decide_eq_true _ (Classical.propDecidable _) h
theorem zBh(s:ByteArray):zAY s=true↔zAZ s:=⟨zDL,@decide_eq_true _ (Classical.propDecidable _)⟩
theorem zHx(s:ByteArray)(w:World):Calls prog 34 #[.string s] w fun e w'=>e=.returned (.bool (zAY s))∧w'=w:=by
 have hb:=get_bt s
 by_cases h:1≤s.size∧s.size≤8∧97≤bt s 0
 ·obtain⟨h1,h2,h3⟩:=h
  have h0:=bt_le s 0
  go_enter func34,ntmps34
  go_wp2
  go_loop [3] (fun i=>∃n:Nat,n≤s.size∧i=.int .i64 n∧∀j,j<n→chP (bt s j)) (fun i=>s.size-(RowKit.intOf i).toNat)
  case atStart=>exact⟨0,Nat.zero_le _,rfl,fun j hj=>absurd hj (Nat.not_lt_zero j)⟩
  case round=>
   obtain⟨n,hn,rfl,hv⟩:=hrel;have HV:Hid (∀j,j<n→chP (bt s j)):=hv;clear hv
   by_cases hlt:n<s.size
   ·have hI:(n:Int)<(s.size:Int):=by omega
    have x0:=bt_nonneg s n;have x1:=bt_le s n
    by_cases hc:chP (bt s n)
    ·have HC:Hid (chP (bt s n)):=hc
     rcases hc with ⟨c1,c2⟩|⟨c1,c2⟩
     all_goals
      go_wp2
      go_round
      case rel=>exact⟨n+1,by omega,by go_num,fun j hj=>by
       rcases Nat.lt_succ_iff_lt_or_eq.1 hj with h|h
       ·exact HV.out j h
       ·rw[h];exact HC.out⟩
      case measure=>simp[RowKit.intOf];omega
    ·have HC:Hid (¬chP (bt s n)):=hc
     unfold chP at hc
     by_cases c1:97≤bt s n
     ·have c2:¬bt s n≤122:=by omega
      have c3:48≤bt s n:=by omega
      have c4:¬bt s n≤57:=by omega
      go_wp2
      go_ret;exact⟨zBs (fun h=>HC.out (h.2.2.2 n hlt)),rfl⟩
     ·by_cases c2:48≤bt s n
      ·have c3:¬bt s n≤57:=by omega
       go_wp2
       go_ret;exact⟨zBs (fun h=>HC.out (h.2.2.2 n hlt)),rfl⟩
      ·go_wp2
       go_ret;exact⟨zBs (fun h=>HC.out (h.2.2.2 n hlt)),rfl⟩
   ·have hI:¬(n:Int)<(s.size:Int):=by omega
    go_wp2
    go_ret;exact⟨zGJ ⟨h1,h2,h3,fun j hj=>HV.out j (by omega)⟩,rfl⟩
 ·have HN:Hid (¬zAZ s):=fun hh=>h ⟨hh.1,hh.2.1,hh.2.2.1⟩
  by_cases h1:1≤s.size
  ·by_cases h2:s.size≤8
   ·have h3:¬97≤bt s 0:=fun h3=>h ⟨h1,h2,h3⟩
    clear h;have x0:=bt_nonneg s 0
    go_enter func34,ntmps34
    go_wp2
    go_ret;exact⟨zBs HN.out,rfl⟩
   ·clear h
    go_enter func34,ntmps34
    go_wp2
    go_ret;exact⟨zBs HN.out,rfl⟩
  ·clear h
   go_enter func34,ntmps34
   go_wp2
   go_ret;exact⟨zBs HN.out,rfl⟩
theorem zDY(n:Int)(h1:97≤n)(h2:n≤122)(w:World):Calls prog 76 #[.int .u8 n] w fun e w'=>e=.returned (.bool true)∧w'=w:=by
 go_enter func76,ntmps76
 go_wp2
 go_ret;exact⟨rfl,rfl⟩
theorem zEL(n:Int)(h0:0≤n)(h255:n≤255)(h:n<97∨122<n)(w:World):Calls prog 76 #[.int .u8 n] w fun e w'=>e=.returned (.bool false)∧w'=w:=by
 by_cases h1:97≤n
 ·have h2:¬n≤122:=by omega
  clear h
  go_enter func76,ntmps76
  go_wp2
  go_ret;exact⟨rfl,rfl⟩
 ·clear h
  go_enter func76,ntmps76
  go_wp2
  go_ret;exact⟨rfl,rfl⟩
theorem zH4(n:Int)(h1:48≤n)(h2:n≤57)(w:World):Calls prog 77 #[.int .u8 n] w fun e w'=>e=.returned (.bool true)∧w'=w:=by
 go_enter func77,ntmps77
 go_wp2
 go_ret;exact⟨rfl,rfl⟩
theorem zKX(n:Int)(h0:0≤n)(h255:n≤255)(h:n<48∨57<n)(w:World):Calls prog 77 #[.int .u8 n] w fun e w'=>e=.returned (.bool false)∧w'=w:=by
 by_cases h1:48≤n
 ·have h2:¬n≤57:=by omega
  clear h
  go_enter func77,ntmps77
  go_wp2
  go_ret;exact⟨rfl,rfl⟩
 ·clear h
  go_enter func77,ntmps77
  go_wp2
  go_ret;exact⟨rfl,rfl⟩
theorem zAE(s:ByteArray)(w:World):Calls prog 33 #[.string s] w fun e w'=>e=.returned (.bool (zAY s))∧w'=w:=by
 have hb:=get_bt s
 by_cases h:1≤s.size∧s.size≤8
 ·obtain⟨h1,h2⟩:=h
  have h0:=bt_nonneg s 0;have h00:=bt_le s 0
  by_cases h3:97≤bt s 0∧bt s 0≤122
  ·have HL:Hid _:=zDY (bt s 0) h3.1 h3.2
   obtain⟨h3,_⟩:=h3
   go_enter func33,ntmps33
   go_wp2_with fail
   refine(HL.out _).mono ?_;rintro e w1 ⟨rfl,rfl⟩
   go_wp2
   go_loop [3,20] (fun _ i=>∃n:Nat,n≤s.size∧i=.int .i64 n∧∀j,j<n→chP (bt s j)) (fun _ i=>s.size-(RowKit.intOf i).toNat)
   case atStart=>exact⟨0,Nat.zero_le _,rfl,fun j hj=>absurd hj (Nat.not_lt_zero j)⟩
   case round=>
    obtain⟨n,hn,rfl,hv⟩:=hrel;have HV:Hid (∀j,j<n→chP (bt s j)):=hv;clear hv
    by_cases hlt:n<s.size
    ·have hI:(n:Int)<(s.size:Int):=by omega
     have x0:=bt_nonneg s n;have x1:=bt_le s n
     by_cases c1:97≤bt s n∧bt s n≤122
     ·have HC:Hid (chP (bt s n)):=Or.inl c1
      have HX:Hid _:=zDY (bt s n) c1.1 c1.2;clear c1
      go_wp2_with fail
      refine(HX.out _).mono ?_;rintro e w1 ⟨rfl,rfl⟩
      go_wp2
      go_round
      case rel=>exact⟨n+1,by omega,by go_num,fun j hj=>by
       rcases Nat.lt_succ_iff_lt_or_eq.1 hj with h|h
       ·exact HV.out j h
       ·rw[h];exact HC.out⟩
      case measure=>simp[RowKit.intOf];omega
     ·have HX:Hid _:=zEL (bt s n) x0 x1 (by omega)
      by_cases c2:48≤bt s n∧bt s n≤57
      ·have HC:Hid (chP (bt s n)):=Or.inr c2
       have HY:Hid _:=zH4 (bt s n) c2.1 c2.2;clear c1 c2
       go_wp2_with fail
       refine(HX.out _).mono ?_;rintro e w1 ⟨rfl,rfl⟩
       go_wp2_with fail
       refine(HY.out _).mono ?_;rintro e w1 ⟨rfl,rfl⟩
       go_wp2
       go_round
       case rel=>exact⟨n+1,by omega,by go_num,fun j hj=>by
        rcases Nat.lt_succ_iff_lt_or_eq.1 hj with h|h
        ·exact HV.out j h
        ·rw[h];exact HC.out⟩
       case measure=>simp[RowKit.intOf];omega
      ·have HC:Hid (¬chP (bt s n)):=fun h=>h.elim c1 c2
       have HY:Hid _:=zKX (bt s n) x0 x1 (by omega);clear c1 c2
       go_wp2_with fail
       refine(HX.out _).mono ?_;rintro e w1 ⟨rfl,rfl⟩
       go_wp2_with fail
       refine(HY.out _).mono ?_;rintro e w1 ⟨rfl,rfl⟩
       go_wp2
       go_ret;exact⟨zBs (fun h=>HC.out (h.2.2.2 n hlt)),rfl⟩
    ·have hI:¬(n:Int)<(s.size:Int):=by omega
     go_wp2
     go_ret;exact⟨zGJ ⟨h1,h2,h3,fun j hj=>HV.out j (by omega)⟩,rfl⟩
  ·have HL:Hid _:=zEL (bt s 0) h0 h00 (by omega)
   have HN:Hid (¬zAZ s):=fun hh=>by
    have:=hh.2.2.2 0 (by omega);have:=hh.2.2.1;unfold chP at *;omega
   clear h3
   go_enter func33,ntmps33
   go_wp2_with fail
   refine(HL.out _).mono ?_;rintro e w1 ⟨rfl,rfl⟩
   go_wp2
   go_ret;exact⟨zBs HN.out,rfl⟩
 ·have HN:Hid (¬zAZ s):=fun hh=>h ⟨hh.1,hh.2.1⟩
  by_cases h1:1≤s.size
  ·have h2:¬s.size≤8:=fun h2=>h ⟨h1,h2⟩
   clear h
   go_enter func33,ntmps33
   go_wp2
   go_ret;exact⟨zBs HN.out,rfl⟩
  ·clear h
   go_enter func33,ntmps33
   go_wp2
   go_ret;exact⟨zBs HN.out,rfl⟩
end
section
open Go.RowKit Go.PlainAid Go.Lib Go.Shelf
structure Ent where
 kind:Int
 op:Int
 k:Int
 a:Int
 b:Int
 s:ByteArray
 k':Int
 a':Int
 b':Int
 s':ByteArray
 vs:Value
 st:ByteArray
 tt:ByteArray
 bb:Value
 n:Int
 x:Int
 y:Int
 o1:Int
 o2:Int
abbrev Ent.L(e:Ent):List Value:=[I e.kind,I e.op,I e.k,I e.a,I e.b,.string e.s,I e.k',I e.a',I e.b',.string e.s',e.vs,.string e.st,.string e.tt,e.bb,I e.n,I e.x,I e.y,I e.o1,I e.o2]
abbrev Ent.V(e:Ent):Value:=.agg #[I e.kind,I e.op,I e.k,I e.a,I e.b,.string e.s,I e.k',I e.a',I e.b',.string e.s',e.vs,.string e.st,.string e.tt,e.bb,I e.n,I e.x,I e.y,I e.o1,I e.o2]
theorem zV7{w W W':World}{b:Nat}{f:Nat→Option Value}(hb:G W W')(h:(∀o,W.cell? ⟨b,o,none⟩=f o)∧G w W∧b<W.heap.size):(∀o,W'.cell? ⟨b,o,none⟩=f o)∧G w W'∧b<W'.heap.size:=zAO h.1 h.2.1 h.2.2 hb
theorem zI9(q:Bool)(w:World):(binOp .neq 4 (.bool q) (.bool q)).run prog w=.ok (.bool false) w:=by
 cases q<;>simp[go_sem]
theorem zP3(q:Bool)(w:World):(binOp .eql 4 (.bool q) (.bool q)).run prog w=.ok (.bool true) w:=by
 cases q<;>simp[go_sem]
theorem zNw(e:Ent)(hs:e.s.size≤4611686018427387904)(w:World)(hT:Tabs w):CG 13 #[e.V] w (.bool true):=by
 obtain⟨kind,op,k,a,b,s,k',a',b',s',vs,st,tt,bb,n,x,y,o1,o2⟩:=e;have H1:Hid _:=zN9 k a b s;have H2:Hid _:=zAm k a b s hs;have H3:Hid _:=zHj k a b s;have H4:Hid _:=zEs k a b s hs;have H5:Hid _:=zAE st;have H6:Hid _:=zHx st;generalize okV k a b s=q1 at H1 H2;generalize stoV k a b s=q2 at H3 H4;generalize zAY st=q3 at H5 H6;have n1:=zI9 q1;have n2:=zI9 q2;have n3:=zP3 q3
 have hc0:∀o,(w.alloc (.cells #[I kind,I op,I k,I a,I b,.string s,I k',I a',I b',.string s',vs,.string st,.string tt,bb,I n,I x,I y,I o1,I o2] 35)).cell? {block:=w.heap.size,off:=o}=[I kind,I op,I k,I a,I b,.string s,I k',I a',I b',.string s',vs,.string st,.string tt,bb,I n,I x,I y,I o1,I o2][o]?:=fun o=>by simp
 have hg0:G w (w.alloc (.cells #[I kind,I op,I k,I a,I b,.string s,I k',I a',I b',.string s',vs,.string st,.string tt,bb,I n,I x,I y,I o1,I o2] 35)):=(G.refl w).alloc _
 have hz0:w.heap.size<(w.alloc (.cells #[I kind,I op,I k,I a,I b,.string s,I k',I a',I b',.string s',vs,.string st,.string tt,bb,I n,I x,I y,I o1,I o2] 35)).heap.size:=by simp
 go_enter func13,ntmps13
 go_wp2
 generalize w.alloc (.cells #[I kind,I op,I k,I a,I b,.string s,I k',I a',I b',.string s',vs,.string st,.string tt,bb,I n,I x,I y,I o1,I o2] 35)=w1 at hc0 hg0 hz0⊢
 go_region_held3 (fun W=>(∀(o:Nat),W.cell? {block:=w.heap.size,off:=o}=[I kind,I op,I k,I a,I b,.string s,I k',I a',I b',.string s',vs,.string st,.string tt,bb,I n,I x,I y,I o1,I o2][o]?)∧G w W∧w.heap.size<W.heap.size) ((first|exact zV7 ‹_› ‹_›|exact zAq ‹_› ‹_› ‹_›|exact zAO ‹_› ‹_› ‹_› ‹_›|exact zAO (zAq ‹_› ‹_› ‹_›).1 (zAq ‹_› ‹_› ‹_›).2.1 (zAq ‹_› ‹_› ‹_›).2.2 ‹_›)) (first|(go_at_call 30;refine(H1.out _ (hT.G (by first|assumption|exact G.drew (by assumption)|exact And.left (And.right (by assumption))|exact G.drew (And.left (And.right (by assumption)))))).mono ?_;rintro e w2 ⟨rfl,hb2⟩)|(go_at_call 26;refine(H2.out _).mono ?_;rintro e w2 ⟨rfl,hb2⟩)|(go_at_call 31;refine(H3.out _ (hT.G (by first|assumption|exact G.drew (by assumption)|exact And.left (And.right (by assumption))|exact G.drew (And.left (And.right (by assumption)))))).mono ?_;rintro e w2 ⟨rfl,hb2⟩)|(go_at_call 32;refine(H4.out _).mono ?_;rintro e w2 ⟨rfl,hb2⟩)|fail)
 rename_i hH
 obtain⟨hc2,hg2,hz2⟩:=hH
 go_wp2
 go_region_held3 (fun W=>(∀(o:Nat),W.cell? {block:=w.heap.size,off:=o}=[I kind,I op,I k,I a,I b,.string s,I k',I a',I b',.string s',vs,.string st,.string tt,bb,I n,I x,I y,I o1,I o2][o]?)∧G w W∧w.heap.size<W.heap.size) ((first|exact zV7 ‹_› ‹_›|exact zAq ‹_› ‹_› ‹_›|exact zAO ‹_› ‹_› ‹_› ‹_›|exact zAO (zAq ‹_› ‹_› ‹_›).1 (zAq ‹_› ‹_› ‹_›).2.1 (zAq ‹_› ‹_› ‹_›).2.2 ‹_›)) (first|(go_at_call 33;refine(H5.out _).mono ?_;rintro e w2 ⟨rfl,rfl⟩)|(go_at_call 34;refine(H6.out _).mono ?_;rintro e w2 ⟨rfl,rfl⟩)|fail)
 rename_i hH
 obtain⟨hc3,hg3,hz3⟩:=hH
 go_wp2
 go_ret;exact⟨rfl,hg3⟩
end
section
open Go.RowKit Go.PlainAid Go.Lib Go.Shelf
theorem zTa(e:Ent)(hk:e.kind=1)(hs:e.s.size≤4611686018427387904)(w:World)(hT:Tabs w):CG 7 #[e.V] w (.bool true):=by
 have H1:Hid _:=zNw e hs;obtain⟨kind,op,k,a,b,s,k',a',b',s',vs,st,tt,bb,n,x,y,o1,o2⟩:=e;simp only at hk;subst hk
 have hr:(w.alloc (.cells #[I 1,I op,I k,I a,I b,.string s,I k',I a',I b',.string s',vs,.string st,.string tt,bb,I n,I x,I y,I o1,I o2] 35)).rangeAt w.heap.size 0 [I 1,I op,I k,I a,I b,.string s,I k',I a',I b',.string s',vs,.string st,.string tt,bb,I n,I x,I y,I o1,I o2]:=fun j v hv=>by rw[Nat.zero_add];simpa using hv
 go_enter func7,ntmps7
 go_wp2_with (first|(refine wpList_load_mid rfl 35 _ rfl w.heap.size 0 rfl [I 1,I op,I k,I a,I b,.string s,I k',I a',I b',.string s',vs,.string st,.string tt,bb,I n,I x,I y,I o1,I o2] _ hr underlying35 rfl (by kernel_rfl) ?_)|(go_at_call 13;refine(H1.out _ (hT.G ((G.refl w).alloc _))).mono ?_;rintro e w1 ⟨rfl,hb1⟩))
 go_wp2
 go_ret;exact⟨rfl,((G.refl w).alloc _).trans hb1⟩
def Ents(W:World)(b off n:Nat)(E:Nat→Ent):Prop:=∀i,i<n→W.rangeAt b (off+i*19) (E i).L
theorem zUl{W:World}{b o:Nat}{v:Value}(h:W.cell? ⟨b,o,none⟩=some v):b<W.heap.size:=by
 rcases Nat.lt_or_ge b W.heap.size with h1|h1
 ·exact h1
 ·exfalso
  have:W.heap[b]?=none:=Array.getElem?_eq_none h1;unfold World.cell? at h;simp only[this] at h;cases h
theorem zCB{W w:World}{b o:Nat}{cs:List Value}(h:W.rangeAt b o cs)(g:G W w):w.rangeAt b o cs:=
 fun j v hv=>(Below.cell g (p:=⟨b,o+j,none⟩) (zUl (h j v hv))).trans (h j v hv)
end
section
open Go.ChangeShapes Go.WideShapes Go.ChangeAt Go.RowKit
theorem zER:prog.cellsOf 31=4:=by kernel_rfl
theorem zJE:prog.cellsOf 35=19:=by kernel_rfl
theorem zG4:prog.cellsOf 3=1:=by kernel_rfl
theorem zG5:prog.cellsOf 2=1:=by kernel_rfl
theorem zG3:prog.cellsOf 9=1:=by kernel_rfl
theorem zQh:prog.cellsOf 32=1:=by kernel_rfl
theorem zQj:prog.cellsOf 33=1:=by kernel_rfl
theorem zQi:prog.cellsOf 5=1:=by kernel_rfl
theorem zNS:prog.bytesOf 31=40:=by kernel_rfl
theorem zQl:prog.bytesOf 5=1:=by kernel_rfl
theorem zQm:prog.bytesOf 35=216:=by kernel_rfl
def R64(n:Int):Prop:=-9223372036854775808≤n∧n≤9223372036854775807
theorem r64{n:Int}(h:(Lit.int .i64 n).wf=true):R64 n:=by
 unfold R64
 simpa [Lit.wf,IntKind.min,IntKind.max,IntKind.signed,IntKind.bits] using h
theorem u8b{n:Int}(h:(Lit.int .u8 n).wf=true):0≤n∧n≤255:=by
 simpa [Lit.wf,IntKind.min,IntKind.max,IntKind.signed,IntKind.bits] using h
section
variable {H:Type} {enc:TypeId×Value→H} {w:World}
noncomputable abbrev zB1(enc:TypeId×Value→H)(w:World)(fuel:Nat)(t:TypeId)(cs:List Value):Option (DataW H×List MemPlace):=DataW.trod enc prog w 0 (fun _=>true) true fuel t cs
def Small(t:TypeId)(d:DataW H):Prop:=∀n∈d.weights prog t,n≤reachBytes
theorem zFL(s:ByteArray):s.size∈(DataW.lit (.string s.data.toList):DataW H).weights prog 9:=by
 show s.size∈[s.data.toList.length];rw[Array.length_toList];exact List.mem_singleton.2 rfl
theorem zFX{fuel:Nat}{cs:List Value}{x:DataW H×List MemPlace}(h:zB1 enc w fuel 31 cs=some x)(hs:Small 31 x.1) :
  ∃(k a b:Int) (s:ByteArray),cs=[I k,I a,I b,.string s]∧R64 k∧R64 a∧R64 b∧s.size≤reachBytes:=by
 obtain⟨xs,n,rfl,rfl,hl,hx,hf⟩:=DataW.trod_struct underlying31 h;rw[zER] at hl
 match cs,hl with
 | [c0,c1,c2,c3],_=>
  have f0:zB1 enc w n 3 (([c0,c1,c2,c3].drop 0).take (prog.cellsOf 3))=xs[0]?:=hf 0 _ rfl;have f1:zB1 enc w n 2 (([c0,c1,c2,c3].drop 1).take (prog.cellsOf 2))=xs[1]?:=hf 1 _ rfl;have f2:zB1 enc w n 2 (([c0,c1,c2,c3].drop 2).take (prog.cellsOf 2))=xs[2]?:=hf 2 _ rfl;have f3:zB1 enc w n 9 (([c0,c1,c2,c3].drop 3).take (prog.cellsOf 9))=xs[3]?:=hf 3 _ rfl;simp only[zG4,zG5,zG3,List.drop_zero,List.drop_succ_cons,List.take_succ_cons,List.take_zero] at f0 f1 f2 f3
  match xs,hx with
  | [y0,y1,y2,y3],_=>
   simp only[List.getElem?_cons_zero,List.getElem?_cons_succ] at f0 f1 f2 f3;obtain⟨k,e0,_,w0⟩:=DataW.trod_int underlying3 f0;obtain⟨a,e1,_,w1⟩:=DataW.trod_int underlying2 f1;obtain⟨b,e2,_,w2⟩:=DataW.trod_int underlying2 f2;obtain⟨s,e3,rfl,w3⟩:=DataW.trod_string underlying9 f3;refine⟨k,a,b,s,by simp_all,r64 w0,r64 w1,r64 w2,hs _ ?_⟩;simp only[DataW.weights,underlying31,List.map_cons,List.map_nil,DataW.weightsEach,List.mem_append]
   right;right;right;left
   exact zFL (H:=H) s
def VsOk(w:World)(x:Value):Prop:=x=.slice none 0 0∨∃(a:Addr) (len cap:Nat) (Q:Nat→Int×Int×Int×ByteArray),x=.slice (some a) len cap∧len≤cap∧cap*40≤reachBytes∧
 ∀i,i<cap→(∀j,j<4→w.cell? (a.add (i*4+j))=[I (Q i).1,I (Q i).2.1,I (Q i).2.2.1,Value.string (Q i).2.2.2][j]?)∧R64 (Q i).1∧R64 (Q i).2.1∧R64 (Q i).2.2.1∧(Q i).2.2.2.size≤reachBytes
def BsOk(w:World)(x:Value):Prop:=x=.slice none 0 0∨∃(a:Addr) (len cap:Nat) (f:Nat→Int),x=.slice (some a) len cap∧len≤cap∧cap≤reachBytes∧∀i,i<cap→w.cell? (a.add i)=some (.int .u8 (f i))∧0≤f i∧f i≤255
theorem zEp{e:TypeId}:∀{l:List (DataW H)} {d:DataW H},d∈l→∀n∈d.weights prog e,n∈DataW.weightsAll prog e l
 | x::r,d,hd,n,hn=>by
  rw[DataW.weightsAll,List.mem_append]
  rcases List.mem_cons.1 hd with rfl|h
  ·exact Or.inl hn
  ·exact Or.inr (zEp h n hn)
theorem zJX{t e:TypeId}{elems spare:List (DataW H)}(hu:prog.underlying t=some (.slice e))(hs:Small t (.slice elems spare)){d:DataW H}(hd:d∈elems∨d∈spare):Small e d:=fun n hn=>hs n (by
 simp only[DataW.weights,hu,List.mem_cons,List.mem_append]
 rcases hd with hd|hd
 ·exact Or.inr (Or.inl (zEp hd n hn))
 ·exact Or.inr (Or.inr (zEp hd n hn)))
theorem zEo{t e:TypeId}{elems spare:List (DataW H)}(hu:prog.underlying t=some (.slice e))(hs:Small t (.slice elems spare)):(elems.length+spare.length)*prog.bytesOf e≤reachBytes:=
 hs _ (by simp only[DataW.weights,hu];exact List.mem_cons_self ..)
theorem zII{t e:TypeId}{len m:Nat}{D:Nat→DataW H}(hu:prog.underlying t=some (.slice e))(hs:Small t (.slice ((List.range len).map D) ((List.range (m-len)).map fun j=>D (len+j)))){i:Nat}(hi:i<m):Small e (D i):=by
 refine zJX hu hs ?_
 by_cases h:i<len
 ·exact Or.inl (List.mem_map.2 ⟨i,List.mem_range.2 h,rfl⟩)
 ·exact Or.inr (List.mem_map.2 ⟨i-len,List.mem_range.2 (by omega),by rw[show len+(i-len)=i by omega]⟩)
theorem zTh{fuel:Nat}{c:Value}{x:DataW H×List MemPlace}(h:zB1 enc w fuel 32 [c]=some x)(hs:Small 32 x.1):VsOk w c:=by
 rcases Go.Deep.open_slice underlying32 h with ⟨hc,rfl⟩|⟨a,len,cap,m,n,D,Pl,hc,_,hl,hm,rfl,rfl,hx⟩
 ·exact Or.inl (by simpa using hc)
 ·right
  have hlen:=zEo underlying32 hs;rw[zNS] at hlen;simp only[List.length_map,List.length_range] at hlen
  have each:∀i,i<m→∃q:Int×Int×Int×ByteArray,(∀j,j<4→w.cell? (a.add (i*4+j))=[I q.1,I q.2.1,I q.2.2.1,Value.string q.2.2.2][j]?)∧R64 q.1∧R64 q.2.1∧R64 q.2.2.1∧q.2.2.2.size≤reachBytes:=by
   intro i hi;obtain⟨cs',h1,h2⟩:=hx i hi;obtain⟨k,a',b,s,rfl,r1,r2,r3,r4⟩:=zFX h2 (zII underlying32 hs hi);rw[zER] at h1;obtain⟨_,_,hcell⟩:=World.cells?_some h1;exact⟨(k,a',b,s),fun j hj=>by have:=hcell j hj;rwa [Go.Deep.add_add] at this,r1,r2,r3,r4⟩
  have:Inhabited (Int×Int×Int×ByteArray):=⟨(0,0,0,E0)⟩;obtain⟨Q,hQ⟩:=Go.Deep.choose_lt each;exact⟨a,len,m,Q,by simpa using hc,hl,by rw[show len+(m-len)=m by omega] at hlen;exact hlen,hQ⟩
theorem zTi{fuel:Nat}{c:Value}{x:DataW H×List MemPlace}(h:zB1 enc w fuel 33 [c]=some x)(hs:Small 33 x.1):BsOk w c:=by
 rcases Go.Deep.open_slice underlying33 h with ⟨hc,rfl⟩|⟨a,len,cap,m,n,D,Pl,hc,_,hl,hm,rfl,rfl,hx⟩
 ·exact Or.inl (by simpa using hc)
 ·right
  have hlen:=zEo underlying33 hs;rw[zQl] at hlen;simp only[List.length_map,List.length_range] at hlen
  have each:∀i,i<m→∃q:Int,w.cell? (a.add i)=some (.int .u8 q)∧0≤q∧q≤255:=by
   intro i hi;obtain⟨cs',h1,h2⟩:=hx i hi;obtain⟨q,rfl,_,wq⟩:=DataW.trod_int underlying5 h2;rw[zQi] at h1;obtain⟨_,_,hcell⟩:=World.cells?_some h1;have:=hcell 0 (by decide);rw[Go.Deep.add_add,Nat.mul_one,Nat.add_zero] at this;exact⟨q,this,u8b wq⟩
  obtain⟨f,hf⟩:=Go.Deep.choose_lt each;exact⟨a,len,m,f,by simpa using hc,hl,by omega,hf⟩
structure zDn(w:World)(e:Ent):Prop where
 kind:R64 e.kind
 op:R64 e.op
 k:R64 e.k
 a:R64 e.a
 b:R64 e.b
 s:e.s.size≤reachBytes
 k':R64 e.k'
 a':R64 e.a'
 b':R64 e.b'
 s':e.s'.size≤reachBytes
 vs:VsOk w e.vs
 st:e.st.size≤reachBytes
 tt:e.tt.size≤reachBytes
 bb:BsOk w e.bb
 n:R64 e.n
 x:R64 e.x
 y:R64 e.y
 o1:R64 e.o1
 o2:R64 e.o2
theorem zPt{fuel:Nat}{cs:List Value}{x:DataW H×List MemPlace}(h:zB1 enc w fuel 35 cs=some x)(hs:Small 35 x.1):∃e:Ent,cs=e.L∧zDn w e:=by
 obtain⟨xs,n,rfl,rfl,hl,hx,hf⟩:=DataW.trod_struct underlying35 h;rw[zJE] at hl
 match cs,hl with
 | [c0,c1,c2,c3,c4,c5,c6,c7,c8,c9,c10,c11,c12,c13,c14,c15,c16,c17,c18],_=>
  have f0:zB1 enc w n 3 (([c0,c1,c2,c3,c4,c5,c6,c7,c8,c9,c10,c11,c12,c13,c14,c15,c16,c17,c18].drop 0).take (prog.cellsOf 3))=xs[0]?:=hf 0 _ rfl;have f1:zB1 enc w n 3 (([c0,c1,c2,c3,c4,c5,c6,c7,c8,c9,c10,c11,c12,c13,c14,c15,c16,c17,c18].drop 1).take (prog.cellsOf 3))=xs[1]?:=hf 1 _ rfl;have f2:zB1 enc w n 31 (([c0,c1,c2,c3,c4,c5,c6,c7,c8,c9,c10,c11,c12,c13,c14,c15,c16,c17,c18].drop 2).take (prog.cellsOf 31))=xs[2]?:=hf 2 _ rfl;have f3:zB1 enc w n 31 (([c0,c1,c2,c3,c4,c5,c6,c7,c8,c9,c10,c11,c12,c13,c14,c15,c16,c17,c18].drop 6).take (prog.cellsOf 31))=xs[3]?:=hf 3 _ rfl;have f4:zB1 enc w n 32 (([c0,c1,c2,c3,c4,c5,c6,c7,c8,c9,c10,c11,c12,c13,c14,c15,c16,c17,c18].drop 10).take (prog.cellsOf 32))=xs[4]?:=hf 4 _ rfl;have f5:zB1 enc w n 9 (([c0,c1,c2,c3,c4,c5,c6,c7,c8,c9,c10,c11,c12,c13,c14,c15,c16,c17,c18].drop 11).take (prog.cellsOf 9))=xs[5]?:=hf 5 _ rfl;have f6:zB1 enc w n 9 (([c0,c1,c2,c3,c4,c5,c6,c7,c8,c9,c10,c11,c12,c13,c14,c15,c16,c17,c18].drop 12).take (prog.cellsOf 9))=xs[6]?:=hf 6 _ rfl;have f7:zB1 enc w n 33 (([c0,c1,c2,c3,c4,c5,c6,c7,c8,c9,c10,c11,c12,c13,c14,c15,c16,c17,c18].drop 13).take (prog.cellsOf 33))=xs[7]?:=hf 7 _ rfl;have f8:zB1 enc w n 2 (([c0,c1,c2,c3,c4,c5,c6,c7,c8,c9,c10,c11,c12,c13,c14,c15,c16,c17,c18].drop 14).take (prog.cellsOf 2))=xs[8]?:=hf 8 _ rfl;have f9:zB1 enc w n 2 (([c0,c1,c2,c3,c4,c5,c6,c7,c8,c9,c10,c11,c12,c13,c14,c15,c16,c17,c18].drop 15).take (prog.cellsOf 2))=xs[9]?:=hf 9 _ rfl;have f10:zB1 enc w n 2 (([c0,c1,c2,c3,c4,c5,c6,c7,c8,c9,c10,c11,c12,c13,c14,c15,c16,c17,c18].drop 16).take (prog.cellsOf 2))=xs[10]?:=hf 10 _ rfl;have f11:zB1 enc w n 3 (([c0,c1,c2,c3,c4,c5,c6,c7,c8,c9,c10,c11,c12,c13,c14,c15,c16,c17,c18].drop 17).take (prog.cellsOf 3))=xs[11]?:=hf 11 _ rfl;have f12:zB1 enc w n 3 (([c0,c1,c2,c3,c4,c5,c6,c7,c8,c9,c10,c11,c12,c13,c14,c15,c16,c17,c18].drop 18).take (prog.cellsOf 3))=xs[12]?:=hf 12 _ rfl;simp only[zG4,zG5,zG3,zER,zQh,zQj,List.drop_zero,List.drop_succ_cons,List.take_succ_cons,List.take_zero] at f0 f1 f2 f3 f4 f5 f6 f7 f8 f9 f10 f11 f12
  match xs,hx with
  | [y0,y1,y2,y3,y4,y5,y6,y7,y8,y9,y10,y11,y12],_=>
   simp only[List.getElem?_cons_zero,List.getElem?_cons_succ] at f0 f1 f2 f3 f4 f5 f6 f7 f8 f9 f10 f11 f12
   have hw:∀n,n∈DataW.weightsEach prog [3,3,31,31,32,9,9,33,2,2,2,3,3] [y0.1,y1.1,y2.1,y3.1,y4.1,y5.1,y6.1,y7.1,y8.1,y9.1,y10.1,y11.1,y12.1]→n≤reachBytes:=fun n hn=>hs n (by
    simp only[DataW.weights,underlying35]
    exact hn)
   have sm:∀(j:Nat) t d,[3,3,31,31,32,9,9,33,2,2,2,3,3][j]?=some t→[y0.1,y1.1,y2.1,y3.1,y4.1,y5.1,y6.1,y7.1,y8.1,y9.1,y10.1,y11.1,y12.1][j]?=some d→Small t d:=fun j t d ht hd n hn=>hw n (DataW.weights_mem_each ht hd n hn);obtain⟨kind,e0,_,w0⟩:=DataW.trod_int underlying3 f0;obtain⟨op,e1,_,w1⟩:=DataW.trod_int underlying3 f1;obtain⟨k,a,b,s,e2,w2,w3,w4,w5⟩:=zFX f2 (sm 2 _ _ rfl rfl);obtain⟨k',a',b',s',e3,w6,w7,w8,w9⟩:=zFX f3 (sm 3 _ _ rfl rfl);have w10:=zTh f4 (sm 4 _ _ rfl rfl);have z5:=sm 5 _ _ rfl rfl;have z6:=sm 6 _ _ rfl rfl;obtain⟨st,e5,q5,_⟩:=DataW.trod_string underlying9 f5;obtain⟨tt,e6,q6,_⟩:=DataW.trod_string underlying9 f6;rw[q5] at z5;rw[q6] at z6;have w11:st.size≤reachBytes:=z5 _ (by exact zFL _);have w12:tt.size≤reachBytes:=z6 _ (by exact zFL _);have w13:=zTi f7 (sm 7 _ _ rfl rfl);obtain⟨n1,e8,_,w14⟩:=DataW.trod_int underlying2 f8;obtain⟨n2,e9,_,w15⟩:=DataW.trod_int underlying2 f9;obtain⟨n3,e10,_,w16⟩:=DataW.trod_int underlying2 f10;obtain⟨n4,e11,_,w17⟩:=DataW.trod_int underlying3 f11;obtain⟨n5,e12,_,w18⟩:=DataW.trod_int underlying3 f12;refine⟨⟨kind,op,k,a,b,s,k',a',b',s',c10,st,tt,c13,n1,n2,n3,n4,n5⟩,?_,⟨r64 w0,r64 w1,w2,w3,w4,w5,w6,w7,w8,w9,w10,w11,w12,w13,r64 w14,r64 w15,r64 w16,r64 w17,r64 w18⟩⟩;simp only[List.cons.injEq,and_true] at e0 e1 e2 e3 e5 e6 e8 e9 e10 e11 e12;obtain⟨rfl,rfl,rfl,rfl⟩:=e2;obtain⟨rfl,rfl,rfl,rfl⟩:=e3;rw[e0,e1,e5,e6,e8,e9,e10,e11,e12]
theorem zHW{b0:Nat}{v:Value}{d:DataW H}{ps:List MemPlace}(hval:Value.okWide prog w .any b0 22 v)(h:DataW.Trod enc prog w 0 (fun _=>true) true 22 v d ps)(hs:Small 22 d) :
  v=.slice none 0 0∨∃(b off n cap:Nat) (E:Nat→Ent),v=.slice (some ⟨b,off,none⟩) n cap∧n≤cap∧cap*216≤reachBytes∧Ents w b off n E∧∀i,i<n→zDn w (E i):=by
 obtain⟨a0,len0,cap0,rfl⟩:=okWide_slice underlying22 hval;obtain⟨fuel,hf⟩:=h
 rcases Go.Deep.open_slice underlying22 hf with ⟨hc,_⟩|⟨a,len,cap,m,n,D,Pl,hc,_,hl,hm,rfl,hx',hx⟩
 ·exact Or.inl (by simpa [Value.cells] using hc)
 ·right
  simp only[Prod.mk.injEq] at hx';obtain⟨rfl,_⟩:=hx';have hlen:=zEo underlying22 hs;rw[zQm] at hlen;simp only[List.length_map,List.length_range] at hlen
  have hv:Value.slice a0 len0 cap0=.slice (some a) len m:=by simpa [Value.cells] using hc
  rw[hv] at hval⊢
  have hspot:a.spot=none:=by
   unfold Value.okWide at hval;simp only[underlying22] at hval;unfold Cell.okWide at hval;simp only[underlying22] at hval;unfold Cell.ok at hval;simp only[underlying22] at hval;exact hval.2.2.2.1
  obtain⟨ab,ao,asp⟩:=a;simp only at hspot;subst hspot
  have each:∀i,i<len→∃e:Ent,w.rangeAt ab (ao+i*19) e.L∧zDn w e:=by
   intro i hi;obtain⟨cs',h1,h2⟩:=hx i (by omega);obtain⟨e,rfl,he⟩:=zPt h2 (zII underlying22 hs (by omega));rw[zJE] at h1;obtain⟨_,_,hcell⟩:=World.cells?_some h1;refine⟨e,fun j v hv=>?_,he⟩;have hj:j<19:=(List.getElem?_eq_some_iff.1 hv).1;have:=hcell j hj;rw[Go.Deep.add_add,Addr.add_mid] at this;rw[Nat.add_assoc,this];exact hv
  have:Inhabited Ent:=⟨⟨0,0,0,0,0,E0,0,0,0,E0,.slice none 0 0,E0,E0,.slice none 0 0,0,0,0,0,0⟩⟩;obtain⟨E,hE⟩:=Go.Deep.choose_lt each;exact⟨ab,ao,len,m,E,rfl,hl,by rw[show len+(m-len)=m by omega] at hlen;exact hlen,fun i hi=>(hE i hi).1,fun i hi=>(hE i hi).2⟩
end
end
section
open Go.RowKit
theorem zH5(W:World)(hT:Tabs W)(e:Ent)(h:zDn W e)(h1:1≤e.kind)(h2:e.kind≤1)(w':World)(g:G W w'):Calls prog 7 #[e.V] w' fun r w''=>r=.returned (.bool true)∧G w' w'':=
 zTa e (by omega) (by have:=h.s;unfold reachBytes at this;omega) w' (hT.G g)
end
end Go.Proofs.YthmdjhfbhbheeaaGreatDoor
