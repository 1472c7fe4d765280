import Derived.Lib.LastIndexByte
import Derived.Ground.NamesProg
import Derived.Shelf.Strconv.Itoa4
import Derived.Test.YthmdjhfbhbheeaaGreatDoorProg
import Derived.Shelf.Strconv.ErrVarParseInt
import Derived.Shelf.Small.Wraps
import Derived.Lib.ConvBytes
import Derived.Test.YthmdjhfbhbheeaaGreatDoorTxt1
namespace Go.Proofs.YthmdjhfbhbheeaaGreatDoor
open Go.Proofs.Tryz
set_option maxHeartbeats 4000000
set_option maxRecDepth 100000
section
open Go.Lib
theorem data_at(u:ByteArray)(j:Nat)(c:UInt8)(h:u.data.toList[j]?=some c):u.data[j]! = c:=by
 have h':u.data[j]?=some c:=by rw[←Array.getElem?_toList];exact h
 simp[getElem!_def,h']
theorem lastIdx_eq(u:ByteArray)(c:UInt8)(L:Nat)(hL:u.data.toList[L]?=some c)(hb:∀j d,L<j→u.data.toList[j]?=some d→d≠c):lastIndexByte u c.toNat=L:=by
 have hsz:u.size=u.data.toList.length:=by rw[Array.length_toList];rfl
 have hlt:L<u.size:=by rw[hsz];exact(List.getElem?_eq_some_iff.1 hL).1
 have cmp:∀d:UInt8,((d.toNat:Nat):Int)=((c.toNat:Nat):Int)→d=c:=fun d h=>UInt8.toNat_inj.1 (by omega)
 unfold lastIndexByte
 rcases lastIdx_spec u c.toNat u.size with ⟨_,h⟩|⟨i,hi,he,hc,hn⟩
 ·exact absurd (by rw[data_at u L c hL]) (h L hlt)
 ·rw[he]
  obtain⟨d,hd⟩:∃d,u.data.toList[i]?=some d:=⟨_,List.getElem?_eq_getElem (by rw[←hsz];exact hi)⟩
  rw[data_at u i d hd] at hc
  have hdc:=cmp d hc
  subst hdc
  rcases Nat.lt_trichotomy i L with h|h|h
  ·exact absurd (by rw[data_at u L d hL]) (hn L h hlt)
  ·subst h;rfl
  ·exact absurd rfl (hb i d h hd)
theorem lastIdx_le(u:ByteArray)(c:UInt8)(L:Nat)(hb:∀j d,L<j→u.data.toList[j]?=some d→d≠c):lastIndexByte u c.toNat≤L:=by
 have hsz:u.size=u.data.toList.length:=by rw[Array.length_toList];rfl
 unfold lastIndexByte
 rcases lastIdx_spec u c.toNat u.size with ⟨h,_⟩|⟨i,hi,he,hc,_⟩
 ·omega
 ·rw[he]
  obtain⟨d,hd⟩:∃d,u.data.toList[i]?=some d:=⟨_,List.getElem?_eq_getElem (by rw[←hsz];exact hi)⟩
  rw[data_at u i d hd] at hc
  have hdc:d=c:=UInt8.toNat_inj.1 (by omega)
  have:¬L<i:=fun h=>hb i d h hd hdc
  omega
theorem sign_at(u:ByteArray)(a b:Int)(h:u.data.toList=itoa a++(if b<0 then itoa b else 43::itoa b)):max (max (lastIndexByte u 43) (lastIndexByte u 45)) 0=((itoa a).length:Int):=by
 obtain⟨σ,ds,hσ,hds,hsp⟩:∃(σ:UInt8) (ds:List UInt8),(if b<0 then itoa b else 43::itoa b)=σ::ds∧(∀c∈ds,48≤c.toNat∧c.toNat≤57)∧(σ=43∨σ=45):=by
  by_cases hb:b<0
  ·rw[if_pos hb]
   refine⟨45,decDigits b.natAbs,by simp[itoa,hb],decD_digit _,.inr rfl⟩
  ·rw[if_neg hb]
   refine⟨43,itoa b,rfl,?_,.inl rfl⟩
   unfold itoa;rw[if_neg hb];exact decD_digit _
 rw[hσ] at h
 have hL:u.data.toList[(itoa a).length]?=some σ:=by rw[h,List.getElem?_append_right (Nat.le_refl _)];simp
 have hb:∀j d,(itoa a).length<j→u.data.toList[j]?=some d→48≤d.toNat∧d.toNat≤57:=fun j d hj hd=>by
  rw[h,List.getElem?_append_right (by omega),show j-(itoa a).length=(j-(itoa a).length-1)+1 by omega,List.getElem?_cons_succ] at hd
  exact hds d (List.mem_of_getElem? hd)
 have n43:∀j d,(itoa a).length<j→u.data.toList[j]?=some d→d≠43:=fun j d hj hd e=>by
  have:=hb j d hj hd;subst e;have e9:(43:UInt8).toNat=43:=rfl;omega
 have n45:∀j d,(itoa a).length<j→u.data.toList[j]?=some d→d≠45:=fun j d hj hd e=>by
  have:=hb j d hj hd;subst e;have e9:(45:UInt8).toNat=45:=rfl;omega
 have l43:=lastIdx_le u 43 _ n43
 have l45:=lastIdx_le u 45 _ n45
 rcases hsp with rfl|rfl
 ·have:=lastIdx_eq u 43 _ hL n43
  have e43:((43:UInt8).toNat:Int)=43:=rfl
  have e45:((45:UInt8).toNat:Int)=45:=rfl
  rw[e43] at this l43;rw[e45] at l45
  omega
 ·have:=lastIdx_eq u 45 _ hL n45
  have e43:((43:UInt8).toNat:Int)=43:=rfl
  have e45:((45:UInt8).toNat:Int)=45:=rfl
  rw[e45] at this l45;rw[e43] at l43
  omega
def FB(t:List UInt8)(c:UInt8)(n:Nat):Prop:=1≤n∧n≤t.length∧∀c0 rest,t=esc1 c0++rest→c=c0∧n=(esc1 c0).length
theorem esc_cases(c:UInt8):(c=92∧esc1 c=[92,92])∨(c=39∧esc1 c=[92,39])∨(c=10∧esc1 c=[92,110])∨(c=9∧esc1 c=[92,116])∨(c=13∧esc1 c=[92,114])∨(esc1 c=[92,120,hx (c.toNat/16),hx (c.toNat%16)])∨(c≠92∧esc1 c=[c]):=by
 unfold esc1
 by_cases h1:c=92
 ·exact .inl ⟨h1,by rw[if_pos h1]⟩
 rw[if_neg h1]
 by_cases h2:c=39
 ·exact .inr (.inl ⟨h2,by rw[if_pos h2]⟩)
 rw[if_neg h2]
 by_cases h3:c=10
 ·exact .inr (.inr (.inl ⟨h3,by rw[if_pos h3]⟩))
 rw[if_neg h3]
 by_cases h4:c=9
 ·exact .inr (.inr (.inr (.inl ⟨h4,by rw[if_pos h4]⟩)))
 rw[if_neg h4]
 by_cases h5:c=13
 ·exact .inr (.inr (.inr (.inr (.inl ⟨h5,by rw[if_pos h5]⟩))))
 rw[if_neg h5]
 by_cases h6:c.toNat<32∨c=127
 ·exact .inr (.inr (.inr (.inr (.inr (.inl (by rw[if_pos h6]))))))
 ·exact .inr (.inr (.inr (.inr (.inr (.inr ⟨h1,by rw[if_neg h6]⟩)))))
theorem fb_plain{d:UInt8}{r:List UInt8}(h:d≠92):FB (d::r) d 1:=by
 refine⟨Nat.le_refl _,by simp,fun c0 rest he=>?_⟩
 rcases esc_cases c0 with ⟨_,e⟩|⟨_,e⟩|⟨_,e⟩|⟨_,e⟩|⟨_,e⟩|e|⟨_,e⟩<;>rw[e] at he⊢
 case inr.inr.inr.inr.inr.inr=>exact⟨(List.cons.inj he).1,rfl⟩
 all_goals exact absurd (List.cons.inj he).1 h
theorem fb_short:FB [92] 92 1:=by
 refine⟨Nat.le_refl _,by simp,fun c0 rest he=>?_⟩
 rcases esc_cases c0 with ⟨_,e⟩|⟨_,e⟩|⟨_,e⟩|⟨_,e⟩|⟨_,e⟩|e|⟨hc,e⟩<;>rw[e] at he⊢
 case inr.inr.inr.inr.inr.inr=>exact absurd (List.cons.inj he).1.symm hc
 all_goals exact absurd he (by simp)
theorem fb_letter(of l:UInt8)(hl:(of=92∧l=92)∨(of=39∧l=39)∨(of=10∧l=110)∨(of=9∧l=116)∨(of=13∧l=114))(r:List UInt8):FB (92::l::r) of 2:=by
 refine⟨by decide,by simp,fun c0 rest he=>?_⟩
 rcases esc_cases c0 with ⟨h,e⟩|⟨h,e⟩|⟨h,e⟩|⟨h,e⟩|⟨h,e⟩|e|⟨hc,e⟩<;>rw[e] at he⊢
 case inr.inr.inr.inr.inr.inr=>exact absurd (List.cons.inj he).1.symm hc
 all_goals
  have h2:=(List.cons.inj (List.cons.inj he).2).1
  rcases hl with ⟨h3,h4⟩|⟨h3,h4⟩|⟨h3,h4⟩|⟨h3,h4⟩|⟨h3,h4⟩<;>rw[h4] at h2<;>first|(exfalso;revert h2;decide)|(refine⟨?_,rfl⟩;rw[h3,h])
theorem fb_none(l:UInt8)(r:List UInt8)(h:l≠92∧l≠39∧l≠110∧l≠116∧l≠114)(hx:l≠120∨r.length<2):FB (92::l::r) 92 1:=by
 refine⟨by decide,by simp,fun c0 rest he=>?_⟩
 rcases esc_cases c0 with ⟨_,e⟩|⟨_,e⟩|⟨_,e⟩|⟨_,e⟩|⟨_,e⟩|e|⟨hc,e⟩<;>rw[e] at he⊢
 case inr.inr.inr.inr.inr.inr=>exact absurd (List.cons.inj he).1.symm hc
 case inr.inr.inr.inr.inr.inl=>
  have h2:=List.cons.inj (List.cons.inj he).2
  rcases hx with hx|hx
  ·exact absurd h2.1 hx
  ·have:=congrArg List.length h2.2
   simp at this;omega
 all_goals
  have h2:=(List.cons.inj (List.cons.inj he).2).1
  first|exact absurd h2 h.1|exact absurd h2 h.2.1|exact absurd h2 h.2.2.1|exact absurd h2 h.2.2.2.1|exact absurd h2 h.2.2.2.2
theorem fb_hex(x y:UInt8)(r:List UInt8)(v:UInt8)(hv:∀p q,p<16→q<16→x=hx p→y=hx q→v=UInt8.ofNat (16*p+q)):FB (92::120::x::y::r) v 4:=by
 refine⟨by decide,by simp,fun c0 rest he=>?_⟩
 rcases esc_cases c0 with ⟨_,e⟩|⟨_,e⟩|⟨_,e⟩|⟨_,e⟩|⟨_,e⟩|e|⟨hc,e⟩<;>rw[e] at he⊢
 case inr.inr.inr.inr.inr.inr=>exact absurd (List.cons.inj he).1.symm hc
 case inr.inr.inr.inr.inr.inl=>
  have h2:=List.cons.inj (List.cons.inj he).2
  have h3:=List.cons.inj h2.2
  have h4:=List.cons.inj h3.2
  have hl:=c0.toNat_lt
  refine⟨?_,rfl⟩
  rw[hv (c0.toNat/16) (c0.toNat%16) (by omega) (by omega) h3.1 h4.1]
  apply UInt8.toNat_inj.1
  rw[UInt8.toNat_ofNat'];omega
 all_goals (have h2:=(List.cons.inj (List.cons.inj he).2).1;exfalso;revert h2;decide)
theorem FB.step{t:List UInt8}{c:UInt8}{n:Nat}(h:FB t c n){l:List UInt8}(he:t=escS l)(hne:t≠[]):∃l',l=c::l'∧t.drop n=escS l':=by
 cases l with
 | nil=>exact absurd (he.trans rfl) hne
 | cons d l=>
  have e:escS (d::l)=esc1 d++escS l:=by simp[escS]
  rw[e] at he
  obtain⟨rfl,hn⟩:=h.2.2 d (escS l) he
  exact⟨l,rfl,by rw[he,hn,List.drop_left]⟩
end
end Go.Proofs.YthmdjhfbhbheeaaGreatDoor
namespace Go.Proofs
open Go.Shelf
def Tryz.laysFormatInt_ren:Go.Shelf.Ren:=⟨fun|173=>250|246=>203|283=>204|284=>205|285=>206|286=>207|129=>209|317=>208|318=>210|319=>211|320=>212|337=>213|338=>214|n=>n,fun|2=>2|3=>3|9=>9|4=>4|171=>92|0=>0|53=>134|37=>33|5=>5|173=>224|212=>227|51=>208|20=>20|213=>228|46=>168|232=>231|233=>232|n=>n,fun|17=>8|18=>9|19=>10|n=>n⟩
theorem Tryz.laysFormatInt:Go.Proofs.LaysM.n173 Tryz.prog Tryz.laysFormatInt_ren:={
 mixed:=by kernel_rfl
 f129:=Tryz.func209.trans (congrArg some (by kernel_rfl))
 f173:=Tryz.func250.trans (congrArg some (by kernel_rfl))
 f246:=Tryz.func203.trans (congrArg some (by kernel_rfl))
 f283:=Tryz.func204.trans (congrArg some (by kernel_rfl))
 f284:=Tryz.func205.trans (congrArg some (by kernel_rfl))
 f285:=Tryz.func206.trans (congrArg some (by kernel_rfl))
 f286:=Tryz.func207.trans (congrArg some (by kernel_rfl))
 f317:=Tryz.func208.trans (congrArg some (by kernel_rfl))
 f318:=Tryz.func210.trans (congrArg some (by kernel_rfl))
 f319:=Tryz.func211.trans (congrArg some (by kernel_rfl))
 f320:=Tryz.func212.trans (congrArg some (by kernel_rfl))
 f337:=Tryz.func213.trans (congrArg some (by kernel_rfl))
 f338:=Tryz.func214.trans (congrArg some (by kernel_rfl))
 t0:=Tryz.underlying0
 a0:=Tryz.isAgg0
 z0:=Tryz.sizeOf0
 v0:=Tryz.zeroValue0
 t2:=Tryz.underlying2
 a2:=Tryz.isAgg2
 z2:=Tryz.sizeOf2
 v2:=Tryz.zeroValue2
 t3:=Tryz.underlying3
 a3:=Tryz.isAgg3
 z3:=Tryz.sizeOf3
 v3:=Tryz.zeroValue3
 t4:=Tryz.underlying4
 a4:=Tryz.isAgg4
 z4:=Tryz.sizeOf4
 v4:=Tryz.zeroValue4
 t5:=Tryz.underlying5
 a5:=Tryz.isAgg5
 z5:=Tryz.sizeOf5
 v5:=Tryz.zeroValue5
 t9:=Tryz.underlying9
 a9:=Tryz.isAgg9
 z9:=Tryz.sizeOf9
 v9:=Tryz.zeroValue9
 t20:=Tryz.underlying20
 a20:=Tryz.isAgg20
 z20:=Tryz.sizeOf20
 v20:=Tryz.zeroValue20
 t37:=Tryz.underlying33
 a37:=Tryz.isAgg33
 z37:=Tryz.sizeOf33
 v37:=Tryz.zeroValue33
 t46:=Tryz.underlying168
 a46:=Tryz.isAgg168
 z46:=Tryz.sizeOf168
 v46:=Tryz.zeroValue168
 t51:=Tryz.underlying208
 a51:=Tryz.isAgg208
 z51:=Tryz.sizeOf208
 v51:=Tryz.zeroValue208
 t53:=Tryz.underlying134
 a53:=Tryz.isAgg134
 z53:=Tryz.sizeOf134
 v53:=Tryz.zeroValue134
 t171:=Tryz.underlying92
 a171:=Tryz.isAgg92
 z171:=Tryz.sizeOf92
 v171:=Tryz.zeroValue92
 t173:=Tryz.underlying224
 a173:=Tryz.isAgg224
 z173:=Tryz.sizeOf224
 v173:=Tryz.zeroValue224
 t212:=Tryz.underlying227
 a212:=Tryz.isAgg227
 z212:=Tryz.sizeOf227
 v212:=Tryz.zeroValue227
 t213:=Tryz.underlying228
 a213:=Tryz.isAgg228
 z213:=Tryz.sizeOf228
 t232:=Tryz.underlying231
 a232:=Tryz.isAgg231
 z232:=Tryz.sizeOf231
 v232:=Tryz.zeroValue231
 t233:=Tryz.underlying232
 a233:=Tryz.isAgg232
 z233:=Tryz.sizeOf232
 v233:=Tryz.zeroValue232
 g17:=by kernel_rfl
 g18:=by kernel_rfl
 g19:=by kernel_rfl
 i0:=by kernel_rfl
 i2:=by kernel_rfl
 i3:=by kernel_rfl
 i4:=by kernel_rfl
 i5:=by kernel_rfl
 i9:=by kernel_rfl
 i20:=by kernel_rfl
 i37:=by kernel_rfl
 i46:=by kernel_rfl
 i51:=by kernel_rfl
 i53:=by kernel_rfl
 i171:=by kernel_rfl
 i173:=by kernel_rfl
 i212:=by kernel_rfl
 i232:=by kernel_rfl
 i233:=by kernel_rfl
 m17:=by kernel_rfl
 m18:=by kernel_rfl
 m19:=by kernel_rfl}
end Go.Proofs
namespace Go.Proofs
open Go.Shelf
def Tryz.laysParseInt_ren:Go.Shelf.Ren:=⟨fun|174=>163|247=>176|245=>177|287=>185|279=>187|280=>188|281=>189|282=>190|321=>195|322=>196|316=>197|171=>199|205=>198|243=>202|246=>203|283=>204|284=>205|285=>206|286=>207|129=>209|317=>208|318=>210|319=>211|320=>212|337=>213|338=>214|n=>n,fun|9=>9|3=>3|2=>2|75=>184|85=>186|4=>4|167=>204|5=>5|53=>134|175=>197|46=>168|168=>205|37=>33|0=>0|210=>213|21=>21|127=>199|145=>221|143=>219|171=>92|173=>224|212=>227|51=>208|20=>20|213=>228|232=>231|233=>232|80=>124|n=>n,fun|15=>6|16=>7|17=>8|18=>9|19=>10|n=>n⟩
theorem Tryz.laysParseInt:Go.Proofs.LaysC.n174 Tryz.prog Tryz.laysParseInt_ren:={
 mixed:=by kernel_rfl
 f129:=Tryz.func209.trans (congrArg some (by kernel_rfl))
 f171:=Tryz.func199.trans (congrArg some (by kernel_rfl))
 f174:=Tryz.func163.trans (congrArg some (by kernel_rfl))
 f205:=Tryz.func198.trans (congrArg some (by kernel_rfl))
 f243:=Tryz.func202.trans (congrArg some (by kernel_rfl))
 f245:=Tryz.func177.trans (congrArg some (by kernel_rfl))
 f246:=Tryz.func203.trans (congrArg some (by kernel_rfl))
 f247:=Tryz.func176.trans (congrArg some (by kernel_rfl))
 f279:=Tryz.func187.trans (congrArg some (by kernel_rfl))
 f280:=Tryz.func188.trans (congrArg some (by kernel_rfl))
 f281:=Tryz.func189.trans (congrArg some (by kernel_rfl))
 f282:=Tryz.func190.trans (congrArg some (by kernel_rfl))
 f283:=Tryz.func204.trans (congrArg some (by kernel_rfl))
 f284:=Tryz.func205.trans (congrArg some (by kernel_rfl))
 f285:=Tryz.func206.trans (congrArg some (by kernel_rfl))
 f286:=Tryz.func207.trans (congrArg some (by kernel_rfl))
 f287:=Tryz.func185.trans (congrArg some (by kernel_rfl))
 f316:=Tryz.func197.trans (congrArg some (by kernel_rfl))
 f317:=Tryz.func208.trans (congrArg some (by kernel_rfl))
 f318:=Tryz.func210.trans (congrArg some (by kernel_rfl))
 f319:=Tryz.func211.trans (congrArg some (by kernel_rfl))
 f320:=Tryz.func212.trans (congrArg some (by kernel_rfl))
 f321:=Tryz.func195.trans (congrArg some (by kernel_rfl))
 f322:=Tryz.func196.trans (congrArg some (by kernel_rfl))
 f337:=Tryz.func213.trans (congrArg some (by kernel_rfl))
 f338:=Tryz.func214.trans (congrArg some (by kernel_rfl))
 t0:=Tryz.underlying0
 a0:=Tryz.isAgg0
 z0:=Tryz.sizeOf0
 v0:=Tryz.zeroValue0
 t2:=Tryz.underlying2
 a2:=Tryz.isAgg2
 z2:=Tryz.sizeOf2
 v2:=Tryz.zeroValue2
 t3:=Tryz.underlying3
 a3:=Tryz.isAgg3
 z3:=Tryz.sizeOf3
 v3:=Tryz.zeroValue3
 t4:=Tryz.underlying4
 a4:=Tryz.isAgg4
 z4:=Tryz.sizeOf4
 v4:=Tryz.zeroValue4
 t5:=Tryz.underlying5
 a5:=Tryz.isAgg5
 z5:=Tryz.sizeOf5
 v5:=Tryz.zeroValue5
 t9:=Tryz.underlying9
 a9:=Tryz.isAgg9
 z9:=Tryz.sizeOf9
 v9:=Tryz.zeroValue9
 t20:=Tryz.underlying20
 a20:=Tryz.isAgg20
 z20:=Tryz.sizeOf20
 v20:=Tryz.zeroValue20
 t21:=Tryz.underlying21
 a21:=Tryz.isAgg21
 z21:=Tryz.sizeOf21
 v21:=Tryz.zeroValue21
 t37:=Tryz.underlying33
 a37:=Tryz.isAgg33
 z37:=Tryz.sizeOf33
 v37:=Tryz.zeroValue33
 t46:=Tryz.underlying168
 a46:=Tryz.isAgg168
 z46:=Tryz.sizeOf168
 v46:=Tryz.zeroValue168
 t51:=Tryz.underlying208
 a51:=Tryz.isAgg208
 z51:=Tryz.sizeOf208
 v51:=Tryz.zeroValue208
 t53:=Tryz.underlying134
 a53:=Tryz.isAgg134
 z53:=Tryz.sizeOf134
 v53:=Tryz.zeroValue134
 t75:=Tryz.underlying184
 a75:=Tryz.isAgg184
 z75:=Tryz.sizeOf184
 v75:=Tryz.zeroValue184
 t85:=Tryz.underlying186
 a85:=Tryz.isAgg186
 z85:=Tryz.sizeOf186
 v85:=Tryz.zeroValue186
 t127:=Tryz.underlying199
 a127:=Tryz.isAgg199
 z127:=Tryz.sizeOf199
 v127:=Tryz.zeroValue199
 t143:=Tryz.underlying219
 a143:=Tryz.isAgg219
 z143:=Tryz.sizeOf219
 v143:=Tryz.zeroValue219
 t145:=Tryz.underlying221
 a145:=Tryz.isAgg221
 z145:=Tryz.sizeOf221
 v145:=Tryz.zeroValue221
 t167:=Tryz.underlying204
 a167:=Tryz.isAgg204
 z167:=Tryz.sizeOf204
 v167:=Tryz.zeroValue204
 t168:=Tryz.underlying205
 a168:=Tryz.isAgg205
 z168:=Tryz.sizeOf205
 v168:=Tryz.zeroValue205
 t171:=Tryz.underlying92
 a171:=Tryz.isAgg92
 z171:=Tryz.sizeOf92
 v171:=Tryz.zeroValue92
 t173:=Tryz.underlying224
 a173:=Tryz.isAgg224
 z173:=Tryz.sizeOf224
 v173:=Tryz.zeroValue224
 t175:=Tryz.underlying197
 a175:=Tryz.isAgg197
 z175:=Tryz.sizeOf197
 v175:=Tryz.zeroValue197
 t210:=Tryz.underlying213
 a210:=Tryz.isAgg213
 z210:=Tryz.sizeOf213
 v210:=Tryz.zeroValue213
 t212:=Tryz.underlying227
 a212:=Tryz.isAgg227
 z212:=Tryz.sizeOf227
 v212:=Tryz.zeroValue227
 t213:=Tryz.underlying228
 a213:=Tryz.isAgg228
 z213:=Tryz.sizeOf228
 t232:=Tryz.underlying231
 a232:=Tryz.isAgg231
 z232:=Tryz.sizeOf231
 v232:=Tryz.zeroValue231
 t233:=Tryz.underlying232
 a233:=Tryz.isAgg232
 z233:=Tryz.sizeOf232
 v233:=Tryz.zeroValue232
 g15:=by kernel_rfl
 g16:=by kernel_rfl
 g17:=by kernel_rfl
 g18:=by kernel_rfl
 g19:=by kernel_rfl
 t80:=Tryz.underlying124
 a80:=Tryz.isAgg124
 z80:=Tryz.sizeOf124
 v80:=Tryz.zeroValue124
 i0:=by kernel_rfl
 i2:=by kernel_rfl
 i3:=by kernel_rfl
 i4:=by kernel_rfl
 i5:=by kernel_rfl
 i9:=by kernel_rfl
 i20:=by kernel_rfl
 i21:=by kernel_rfl
 i37:=by kernel_rfl
 i46:=by kernel_rfl
 i51:=by kernel_rfl
 i53:=by kernel_rfl
 i75:=by kernel_rfl
 i80:=by kernel_rfl
 i85:=by kernel_rfl
 i127:=by kernel_rfl
 i143:=by kernel_rfl
 i145:=by kernel_rfl
 i167:=by kernel_rfl
 i168:=by kernel_rfl
 i171:=by kernel_rfl
 i173:=by kernel_rfl
 i175:=by kernel_rfl
 i210:=by kernel_rfl
 i212:=by kernel_rfl
 i232:=by kernel_rfl
 i233:=by kernel_rfl
 m15:=by kernel_rfl
 m16:=by kernel_rfl
 m17:=by kernel_rfl
 m18:=by kernel_rfl
 m19:=by kernel_rfl
 c0:=by kernel_rfl
 c2:=by kernel_rfl
 c3:=by kernel_rfl
 c4:=by kernel_rfl
 c5:=by kernel_rfl
 c9:=by kernel_rfl
 c20:=by kernel_rfl
 c21:=by kernel_rfl
 c37:=by kernel_rfl
 c46:=by kernel_rfl
 c51:=by kernel_rfl
 c53:=by kernel_rfl
 c75:=by kernel_rfl
 c80:=by kernel_rfl
 c85:=by kernel_rfl
 c127:=by kernel_rfl
 c143:=by kernel_rfl
 c145:=by kernel_rfl
 c167:=by kernel_rfl
 c168:=by kernel_rfl
 c171:=by kernel_rfl
 c173:=by kernel_rfl
 c175:=by kernel_rfl
 c210:=by kernel_rfl
 c212:=by kernel_rfl
 c213:=by kernel_rfl
 c232:=by kernel_rfl
 c233:=by kernel_rfl}
end Go.Proofs
namespace Go.Proofs
open Go.Shelf
def Tryz.laysFormatBool_ren:Go.Shelf.Ren:=⟨fun|121=>241|214=>242|n=>n,fun|4=>4|9=>9|n=>n,fun|n=>n⟩
theorem Tryz.laysFormatBool:Go.Proofs.Lays.n121 Tryz.prog Tryz.laysFormatBool_ren:={
 mixed:=by kernel_rfl
 f121:=Tryz.func241.trans (congrArg some (by kernel_rfl))
 f214:=Tryz.func242.trans (congrArg some (by kernel_rfl))
 t4:=Tryz.underlying4
 a4:=Tryz.isAgg4
 z4:=Tryz.sizeOf4
 v4:=Tryz.zeroValue4
 t9:=Tryz.underlying9
 a9:=Tryz.isAgg9
 z9:=Tryz.sizeOf9
 v9:=Tryz.zeroValue9}
end Go.Proofs
namespace Go.Proofs.YthmdjhfbhbheeaaGreatDoor
open Go.Proofs.Tryz
set_option maxHeartbeats 4000000
set_option maxRecDepth 100000
section
open Go.RowKit Go.Lib Go.Shelf
structure Env(w:World):Prop where
 t:Tabs w
 p:TabIs prog w "internal/strconv.uint64pow10" .u64 pow10Tab
 s:∃tp p,w.var? prog "strconv.ErrSyntax"=some #[.iface tp p]
 r:∃tp p,w.var? prog "strconv.ErrRange"=some #[.iface tp p]
 e:w.var? prog "trellis/value.escapes"=some #[.int .u8 92,.int .u8 92,.int .u8 39,.int .u8 39,.int .u8 10,.int .u8 110,.int .u8 9,.int .u8 116,.int .u8 13,.int .u8 114]
theorem var_G{w w':World}(g:G w w'){n:String}{cs:Array Value}(h:w.var? prog n=some cs):w'.var? prog n=some cs:=by
 unfold World.var? at h⊢
 cases hg:prog.globalNamed n with
 | none=>rw[hg] at h;simp at h
 | some k=>
  rw[hg] at h
  simp only[Option.bind_some] at h⊢
  have hlt:k<w.heap.size:=Nat.lt_of_not_le fun hle=>by
   rw[Array.getElem?_eq_none hle] at h;simp at h
  rw[g.block k hlt];exact h
theorem Env.G{w w':World}(h:Env w)(g:G w w'):Env w':=
 ⟨h.t.G g,var_G g h.p,h.s.imp fun _=>Exists.imp fun _=>var_G g,h.r.imp fun _=>Exists.imp fun _=>var_G g,var_G g h.e⟩
theorem G.grow(w:World)(k:Nat)(os:Array Obj):G w (Go.Sort.grow (w.drewN k) os):=⟨rfl,rfl,rfl,by simp[Go.Sort.grow],fun j hj=>by simp[Go.Sort.grow,Array.getElem?_append,hj]⟩
def strU(l:List UInt8):ByteArray:=⟨l.toArray⟩
theorem strU_list(l:List UInt8):(strU l).data.toList=l:=by simp[strU]
theorem dec_any(n:Int)(h:R64 n)(w:World)(hE:Env w):Calls prog 249 #[.int .i64 n] w fun e w'=>e=.returned (.string (strU (itoa n)))∧G w w':=by
 have HF:Hid (Calls prog 250 #[.int .i64 n,.int .i64 10] w fun e w'=>e=.returned (.string ⟨(itoa n).toArray⟩)∧∃k os,w'=Go.Sort.grow (w.drewN k) os):=Any.strconv_FormatInt_10 Tryz.laysFormatInt n h.1 h.2 w hE.p
 clear hE
 go_enter func249,ntmps249
 go_wp2_with fail
 refine HF.out.mono ?_
 rintro e w1 ⟨rfl,k,os,rfl⟩
 go_wp2
 go_ret
 exact⟨rfl,G.grow w k os⟩
theorem wh_any(s:ByteArray)(hs:s.size≤140737488355328)(w:World)(hE:Env w):Calls prog 133 #[.string s] w fun e w'=>e=.returned (.int .i64 (whO s.data.toList))∧G w w':=by
 have HP:Hid (Calls prog 163 #[.string s,.int .i64 10,.int .i64 64] w fun e w'=>∃x,e=.returned (.tuple #[.int .i64 (whO s.data.toList),x])∧G w w'):=by
  unfold whO
  cases h:parseIntB 64 s.data.toList with
  | ok n=>
   refine(Any.strconv_ParseInt_10_at64_ok Tryz.laysParseInt s (by omega) n h w).mono ?_
   rintro e w' ⟨rfl,hw|⟨t,hw⟩⟩
   ·exact⟨_,rfl,by rw[hw];exact G.refl _⟩
   ·refine⟨_,rfl,?_⟩
    rw[hw]
    exact⟨rfl,rfl,rfl,by rw[Lib.bytesWorld_size];omega,fun j hj=>Lib.bytesWorld_at_old w _ t j hj⟩
  | «syntax»=>
   obtain⟨tp,p,hv⟩:=hE.s
   refine(Any.strconv_ParseInt_10_at64_syntax_var Tryz.laysParseInt s (by omega) h tp p w hv).mono ?_
   rintro e w' ⟨N,rfl,_,_,hb⟩
   exact⟨_,rfl,hb⟩
  | range=>
   obtain⟨tp,p,hv⟩:=hE.r
   refine(Any.strconv_ParseInt_10_at64_range_var Tryz.laysParseInt s (by omega) h tp p w hv).mono ?_
   rintro e w' ⟨N,rfl,_,_,hb⟩
   exact⟨_,rfl,hb⟩
 clear hE
 generalize whO s.data.toList=n at HP
 go_enter func133,ntmps133
 go_wp2_with fail
 refine HP.out.mono ?_
 rintro e w1 ⟨x,rfl,hb⟩
 have HB:Hid _:=hb
 clear hb
 go_wp2
 go_ret
 exact⟨rfl,HB.out⟩
theorem inner_any(s:ByteArray)(hs:s.size≤140737488355328)(w:World):Calls prog 132 #[.string s] w fun e w'=>e=.returned (.string (strU (innr s.data.toList)))∧w'=w:=by
 have hsz:s.data.toList.length=s.size:=by rw[Array.length_toList];rfl
 by_cases h:s.size<2
 ·have e:innr s.data.toList=[]:=by
   unfold innr
   apply List.eq_nil_of_length_eq_zero
   rw[List.length_dropLast,List.length_drop];omega
  rw[e]
  have hI:((s.size:Nat):Int)<2:=by omega
  go_enter func132,ntmps132
  go_wp2
  go_ret
  exact⟨rfl,rfl⟩
 ·have e:strU (innr s.data.toList)=s.extract 1 (s.size-1):=by
   unfold strU innr
   apply ByteArray.ext
   rw[ByteArray.data_extract]
   apply Array.ext'
   rw[List.toList_toArray,Array.toList_extract,List.extract_eq_take_drop,List.dropLast_eq_take,List.length_drop,hsz]
  rw[e]
  have hI:¬((s.size:Nat):Int)<2:=by omega
  go_enter func132,ntmps132
  go_wp2
  go_ret
  exact⟨rfl,rfl⟩
end
section
open Go.RowKit Go.Lib Go.Shelf
theorem hide{p:Prop}(h:p):Hid p:=h
theorem strU_add(a b:List UInt8):strU a++strU b=strU (a++b):=by
 have:(strU a++strU b).data=(strU (a++b)).data:=by simp[strU]
 cases h1:strU a++strU b with
 | mk d=>rw[h1] at this;cases h2:strU (a++b)with|mk e=>rw[h2] at this;simpa using this
theorem rstrU_size(a:List UInt8):(strU a).size=a.length:=by simp[strU,ByteArray.size]
theorem add_U(a b:List UInt8)(h:a.length+b.length≤9223372036854775807)(W:World):(Op.stringOp .add (strU a) (strU b)).run prog W=.ok (.string (strU (a++b))) W:=by
 rw[run_string_add_sum W _ _ (by rw[rstrU_size,rstrU_size];exact h),strU_add]
theorem conv_1(w:World)(x:UInt8)(z:Int)(hz:z=(x.toNat:Int)):(convert 33 9 (.slice (some ⟨w.heap.size,0,none⟩) 1 1)).run prog (w.alloc (.cells #[.int .u8 z] 5))=.ok (.string (strU [x])) (w.alloc (.cells #[.int .u8 z] 5)):=by
 subst hz
 refine run_convert_bytes_back _ 33 9 5 ⟨w.heap.size,0,none⟩ 1 [x] underlying33 underlying5 underlying9 (fun j hj=>?_)
 match j,hj with
 | 0,_=>simp[Addr.add]
theorem conv_2d(w:World)(x y:UInt8):(convert 33 9 (.slice (some ⟨w.heap.size,0,none⟩) 2 2)).run prog (w.alloc (.cells #[.int .u8 x.toNat,.int .u8 y.toNat] 5)).drew=.ok (.string (strU [x,y])) (w.alloc (.cells #[.int .u8 x.toNat,.int .u8 y.toNat] 5)).drew:=by
 refine run_convert_bytes_back _ 33 9 5 ⟨w.heap.size,0,none⟩ 2 [x,y] underlying33 underlying5 underlying9 (fun j hj=>?_)
 match j,hj with
 | 0,_=>simp[Addr.add]
 | 1,_=>simp[Addr.add]
theorem dec_cons(u:Nat)(l:List UInt8)(_:u≠0):decDigits u++l=(if u/10=0 then [] else decDigits (u/10))++(UInt8.ofNat (48+u%10)::l):=by
 rw[decDigits]
 by_cases h1:u<10
 ·rw[dif_pos h1,if_pos (by omega),Nat.mod_eq_of_lt h1];rfl
 ·rw[dif_neg h1,if_neg (by omega),List.append_assoc];rfl
theorem rdec_any(n:Int)(h:R64 n)(w:World):Calls prog 99 #[.int .i64 n] w fun e w'=>e=.returned (.string (strU (itoa n)))∧G w w':=by
 unfold R64 at h
 obtain⟨h1,h2⟩:=h
 by_cases h0:n=0
 ·subst h0
  go_enter func99,ntmps99
  go_wp2
  go_ret
  exact⟨by rw[show itoa 0=[48] by unfold itoa;rw[if_neg (by omega),show(0:Int).toNat=0 from rfl,decDigits];rfl];rfl,G.refl _⟩
 ·have HB:=hide (rbelow_any n h1 h2 w)
  have hlo:lo n = -((n.natAbs:Nat):Int):=by unfold lo;split<;>omega
  rw[hlo] at HB
  have HI:Hid (itoa n=if n<0 then 45::decDigits n.natAbs else decDigits n.natAbs):=by
   unfold Hid itoa
   split
   ·rfl
   ·rw[show n.toNat=n.natAbs by omega]
  have hN:n.natAbs≤9223372036854775808:=by omega
  have hN1:1≤n.natAbs:=by omega
  generalize n.natAbs=N at HB HI hN hN1
  clear hlo
  go_enter func99,ntmps99
  go_wp2_with fail
  refine HB.out.mono ?_
  rintro e' w1 ⟨rfl,rfl⟩
  clear HB
  go_wp2_with fail
  go_loopw [3,4] (fun m s W=>∃(u:Nat) (l:List UInt8),u+2*l.length≤N+1∧(1≤u→u+2*l.length≤N)∧m=.int .i64 (-(u:Int))∧s=.string (strU l)∧(if u=0 then [] else decDigits u)++l=decDigits N∧G w1 W) (fun m _ _=>(RowKit.intOf m).natAbs)
  case atStart=>exact⟨N,[],by simp,by simp,rfl,rfl,by rw[if_neg (by omega),List.append_nil],G.refl _⟩
  case round=>
   obtain⟨u,l,hu,hu2,rfl,rfl,hd,hg⟩:=hrel
   have HD:=hide hd
   have HG:=hide hg
   clear hd hg
   by_cases hz:u=0
   ·subst hz
    have hl:l=decDigits N:=by have:=HD.out;rw[if_pos rfl] at this;exact this
    have hadd:∀W,(Op.stringOp .add {data:=#[45]} (strU l)).run prog W=.ok (.string (strU (45::l))) W:=add_U [45] l (by simp;omega)
    by_cases hn:n<0
    ·have HI2:Hid (itoa n=45::l):=by unfold Hid;rw[HI.out,if_pos hn,hl]
     clear HI HD hl
     go_wp2
     go_ret
     exact⟨by rw[HI2.out];rfl,HG.out⟩
    ·have HI2:Hid (itoa n=l):=by unfold Hid;rw[HI.out,if_neg hn,hl]
     clear HI HD hl hadd
     go_wp2
     go_ret
     exact⟨by rw[HI2.out];rfl,HG.out⟩
   ·have hu3:=hu2 (by omega)
    have hune:¬(-(u:Int))=0:=by omega
    have hrem:(-(u:Int)).tmod 10 = -((u%10:Nat):Int):=by rw[Int.neg_tmod,Int.tmod_eq_emod_of_nonneg (by omega)];omega
    have hquo:(-(u:Int)).tdiv 10 = -((u/10:Nat):Int):=by rw[Int.neg_tdiv,Int.tdiv_eq_ediv_of_nonneg (by omega)];omega
    have hcv:=conv_1 wr (UInt8.ofNat (48+u%10)) (48+(u:Int)%10) (by rw[dig_nat _ (by omega)];omega)
    have hadd:=add_U [UInt8.ofNat (48+u%10)] l (by simp;omega)
    have HDN:Hid ((if u/10=0 then [] else decDigits (u/10))++(UInt8.ofNat (48+u%10)::l)=decDigits N):=by
     have:=HD.out
     rw[if_neg hz,dec_cons u l hz] at this
     exact this
    generalize UInt8.ofNat (48+u%10)=dg at hcv hadd HDN
    go_wp2
    go_roundw
    case rel=>exact⟨u/10,dg::l,by simp;omega,fun _=>by simp;omega,by go_num,rfl,HDN.out,G.alloc HG.out _⟩
    case measure=>simp[RowKit.intOf];omega
theorem dig_all:∀d:Fin 16,(({data:=#[48,49,50,51,52,53,54,55,56,57,97,98,99,100,101,102]}:ByteArray)[d.val]'(by have:=d.2;exact this)).toNat=(hx d.val).toNat:=by decide
theorem dig_at(z:Int)(d:Nat)(hz:z=d)(hd:d<16){hb:z.toNat<({data:=#[48,49,50,51,52,53,54,55,56,57,97,98,99,100,101,102]}:ByteArray).size}:(({data:=#[48,49,50,51,52,53,54,55,56,57,97,98,99,100,101,102]}:ByteArray)[z.toNat]'hb).toNat=(hx d).toNat:=by
 subst hz
 simp only[Int.toNat_natCast]
 exact dig_all ⟨d,hd⟩
theorem rlet_lo(c:Nat)(hc:c<32)(h92:((c:Int)==92)=false)(h39:((c:Int)==39)=false)(h10:((c:Int)==10)=false)(h9:((c:Int)==9)=false)(h13:((c:Int)==13)=false)(w:World):Calls prog 100 #[.int .u8 c] w fun e w'=>e=.returned (.string (strU [92,120,hx (c/16),hx (c%16)]))∧G w w':=by
 have hcI:(c:Int)<32:=by omega
 have hcv:=conv_2d w (hx (c/16)) (hx (c%16))
 have hadd:∀W,(Op.stringOp .add {data:=#[92,120]} (strU [hx (c/16),hx (c%16)])).run prog W=.ok (.string (strU [92,120,hx (c/16),hx (c%16)])) W:=add_U [92,120] _ (by simp)
 go_enter func100,ntmps100
 go_wp2_with fail
 refine wp_region_noPanic ?_
 refine wp_region_held_drew (S:=(fun _=>True)) (by kernel_rfl) (trivial) (fun hHeld=>?_)
 refine wpAnyH_take (i:=0) (v:=?_) rfl (by kernel_rfl) (by kernel_rfl) (by kernel_rfl) (fun _ _ _ h=>h) (Or.inl ⟨by rfl,?_⟩) hHeld ?_
 rotate_left 1
 ·(intro w hSw;(try dsimp only at hSw);go_simp;try with_reducible rfl)
 try simp only[Act.put,List.getElem_toArray,List.getElem_cons_zero,List.setIfInBounds_toArray,List.set_cons_zero,List.set_cons_succ]
 refine wpAnyH_take (i:=1) (v:=(.int .u8 ((c/16:Nat):Int))) rfl (by kernel_rfl) (by kernel_rfl) (by kernel_rfl) (fun _ _ _ h=>h) (Or.inl ⟨by rfl,?_⟩) hHeld ?_
 ·(intro w hSw;go_simp;rw[IntKind.wrap_u8];omega)
 try simp only[Act.put,List.getElem_toArray,List.getElem_cons_zero,List.getElem_cons_succ,List.setIfInBounds_toArray,List.set_cons_zero,List.set_cons_succ]
 refine wpAnyH_take (i:=2) (v:=(.int .u8 (hx (c/16)).toNat)) rfl (by kernel_rfl) (by kernel_rfl) (by kernel_rfl) (fun _ _ _ h=>h) (Or.inl ⟨by rfl,?_⟩) hHeld ?_
 ·(intro w hSw;go_simp;rw[dif_pos (by omega)];simp only[Result.andThen_ok];rw[dig_at _ (c/16) (by omega) (by omega)])
 try simp only[Act.put,List.getElem_toArray,List.getElem_cons_zero,List.getElem_cons_succ,List.setIfInBounds_toArray,List.set_cons_zero,List.set_cons_succ]
 refine wpAnyH_take (i:=3) (v:=?_) rfl (by kernel_rfl) (by kernel_rfl) (by kernel_rfl) (fun _ _ _ h=>h) (Or.inl ⟨by rfl,?_⟩) hHeld ?_
 rotate_left 1
 ·(intro w hSw;(try dsimp only at hSw);go_simp;try with_reducible rfl)
 try simp only[Act.put,List.getElem_toArray,List.getElem_cons_zero,List.getElem_cons_succ,List.setIfInBounds_toArray,List.set_cons_zero,List.set_cons_succ]
 refine wpAnyH_take (i:=4) (v:=(.int .u8 ((c%16:Nat):Int))) rfl (by kernel_rfl) (by kernel_rfl) (by kernel_rfl) (fun _ _ _ h=>h) (Or.inl ⟨by rfl,?_⟩) hHeld ?_
 ·(intro w hSw;go_simp;exact Int.tmod_eq_emod_of_nonneg (by omega))
 try simp only[Act.put,List.getElem_toArray,List.getElem_cons_zero,List.getElem_cons_succ,List.setIfInBounds_toArray,List.set_cons_zero,List.set_cons_succ]
 refine wpAnyH_take (i:=5) (v:=(.int .u8 (hx (c%16)).toNat)) rfl (by kernel_rfl) (by kernel_rfl) (by kernel_rfl) (fun _ _ _ h=>h) (Or.inl ⟨by rfl,?_⟩) hHeld ?_
 ·(intro w hSw;go_simp;rw[dif_pos (by omega)];simp only[Result.andThen_ok];rw[dig_at _ (c%16) (by omega) (by omega)])
 try simp only[Act.put,List.getElem_toArray,List.getElem_cons_zero,List.getElem_cons_succ,List.setIfInBounds_toArray,List.set_cons_zero,List.set_cons_succ]
 refine wpAnyH_ready (rs:=[6]) (by kernel_rfl) (by simp) (AllReadyH.cons rfl (fun K hK=>?_) AllReadyH.nil)
 clear hHeld
 go_simp
 refine hK.out _ _ (trivial) (fun hHeld=>?_)
 clear hK K
 try simp only[Act.put,List.getElem_toArray,List.getElem_cons_zero,List.getElem_cons_succ,List.setIfInBounds_toArray,List.set_cons_zero,List.set_cons_succ]
 refine wpAnyH_ready (rs:=[7]) (by kernel_rfl) (by simp) (AllReadyH.cons rfl (fun K hK=>?_) AllReadyH.nil)
 clear hHeld
 go_simp
 refine hK.out _ _ (trivial) (fun hHeld=>?_)
 clear hK K
 try simp only[Act.put,List.getElem_toArray,List.getElem_cons_zero,List.getElem_cons_succ,List.setIfInBounds_toArray,List.set_cons_zero,List.set_cons_succ]
 refine wpAnyH_take (i:=8) (v:=?_) rfl (by kernel_rfl) (by kernel_rfl) (by kernel_rfl) (fun _ _ _ h=>h) (Or.inl ⟨by rfl,?_⟩) hHeld ?_
 rotate_left 1
 ·(intro w hSw;(try dsimp only at hSw);go_simp;try with_reducible rfl)
 try simp only[Act.put,List.getElem_toArray,List.getElem_cons_zero,List.getElem_cons_succ,List.setIfInBounds_toArray,List.set_cons_zero,List.set_cons_succ]
 refine wpAnyH_take (i:=9) (v:=?_) rfl (by kernel_rfl) (by kernel_rfl) (by kernel_rfl) (fun _ _ _ h=>h) (Or.inl ⟨by rfl,?_⟩) hHeld ?_
 rotate_left 1
 ·(intro w hSw;(try dsimp only at hSw);go_simp;try with_reducible rfl)
 try simp only[Act.put,List.getElem_toArray,List.getElem_cons_zero,List.getElem_cons_succ,List.setIfInBounds_toArray,List.set_cons_zero,List.set_cons_succ]
 refine wpAnyH_done (by kernel_rfl) ?_ _
 refine NoPanic.normal ?_
 go_wp2
 go_ret
 exact⟨rfl,((G.refl w).alloc _).drew⟩
theorem rlet_127(w:World):Calls prog 100 #[.int .u8 127] w fun e w'=>e=.returned (.string (strU (esc1 127)))∧G w w':=by
 have hcv:(convert 33 9 (.slice (some ⟨w.heap.size,0,none⟩) 2 2)).run prog (w.alloc (.cells #[.int .u8 55,.int .u8 102] 5)).drew=.ok (.string (strU [55,102])) (w.alloc (.cells #[.int .u8 55,.int .u8 102] 5)).drew:=conv_2d w 55 102
 have hadd:∀W,(Op.stringOp .add {data:=#[92,120]} (strU [55,102])).run prog W=.ok (.string (strU [92,120,55,102])) W:=add_U [92,120] _ (by simp)
 go_enter func100,ntmps100
 go_wp2_with fail
 refine wp_region_noPanic ?_
 refine wp_region_held_drew (S:=(fun _=>True)) (by kernel_rfl) (trivial) (fun hHeld=>?_)
 refine wpAnyH_take (i:=0) (v:=?_) rfl (by kernel_rfl) (by kernel_rfl) (by kernel_rfl) (fun _ _ _ h=>h) (Or.inl ⟨by rfl,?_⟩) hHeld ?_
 rotate_left 1
 ·(intro w hSw;(try dsimp only at hSw);go_simp;try with_reducible rfl)
 try simp only[Act.put,List.getElem_toArray,List.getElem_cons_zero,List.setIfInBounds_toArray,List.set_cons_zero,List.set_cons_succ]
 refine wpAnyH_take (i:=1) (v:=(.int .u8 7)) rfl (by kernel_rfl) (by kernel_rfl) (by kernel_rfl) (fun _ _ _ h=>h) (Or.inl ⟨by rfl,?_⟩) hHeld ?_
 ·(intro w hSw;kernel_rfl)
 try simp only[Act.put,List.getElem_toArray,List.getElem_cons_zero,List.getElem_cons_succ,List.setIfInBounds_toArray,List.set_cons_zero,List.set_cons_succ]
 refine wpAnyH_take (i:=2) (v:=(.int .u8 55)) rfl (by kernel_rfl) (by kernel_rfl) (by kernel_rfl) (fun _ _ _ h=>h) (Or.inl ⟨by rfl,?_⟩) hHeld ?_
 ·(intro w hSw;kernel_rfl)
 try simp only[Act.put,List.getElem_toArray,List.getElem_cons_zero,List.getElem_cons_succ,List.setIfInBounds_toArray,List.set_cons_zero,List.set_cons_succ]
 refine wpAnyH_take (i:=3) (v:=?_) rfl (by kernel_rfl) (by kernel_rfl) (by kernel_rfl) (fun _ _ _ h=>h) (Or.inl ⟨by rfl,?_⟩) hHeld ?_
 rotate_left 1
 ·(intro w hSw;(try dsimp only at hSw);go_simp;try with_reducible rfl)
 try simp only[Act.put,List.getElem_toArray,List.getElem_cons_zero,List.getElem_cons_succ,List.setIfInBounds_toArray,List.set_cons_zero,List.set_cons_succ]
 refine wpAnyH_take (i:=4) (v:=(.int .u8 15)) rfl (by kernel_rfl) (by kernel_rfl) (by kernel_rfl) (fun _ _ _ h=>h) (Or.inl ⟨by rfl,?_⟩) hHeld ?_
 ·(intro w hSw;kernel_rfl)
 try simp only[Act.put,List.getElem_toArray,List.getElem_cons_zero,List.getElem_cons_succ,List.setIfInBounds_toArray,List.set_cons_zero,List.set_cons_succ]
 refine wpAnyH_take (i:=5) (v:=(.int .u8 102)) rfl (by kernel_rfl) (by kernel_rfl) (by kernel_rfl) (fun _ _ _ h=>h) (Or.inl ⟨by rfl,?_⟩) hHeld ?_
 ·(intro w hSw;kernel_rfl)
 try simp only[Act.put,List.getElem_toArray,List.getElem_cons_zero,List.getElem_cons_succ,List.setIfInBounds_toArray,List.set_cons_zero,List.set_cons_succ]
 refine wpAnyH_ready (rs:=[6]) (by kernel_rfl) (by simp) (AllReadyH.cons rfl (fun K hK=>?_) AllReadyH.nil)
 clear hHeld
 go_simp
 refine hK.out _ _ (trivial) (fun hHeld=>?_)
 clear hK K
 try simp only[Act.put,List.getElem_toArray,List.getElem_cons_zero,List.getElem_cons_succ,List.setIfInBounds_toArray,List.set_cons_zero,List.set_cons_succ]
 refine wpAnyH_ready (rs:=[7]) (by kernel_rfl) (by simp) (AllReadyH.cons rfl (fun K hK=>?_) AllReadyH.nil)
 clear hHeld
 go_simp
 refine hK.out _ _ (trivial) (fun hHeld=>?_)
 clear hK K
 try simp only[Act.put,List.getElem_toArray,List.getElem_cons_zero,List.getElem_cons_succ,List.setIfInBounds_toArray,List.set_cons_zero,List.set_cons_succ]
 refine wpAnyH_take (i:=8) (v:=?_) rfl (by kernel_rfl) (by kernel_rfl) (by kernel_rfl) (fun _ _ _ h=>h) (Or.inl ⟨by rfl,?_⟩) hHeld ?_
 rotate_left 1
 ·(intro w hSw;(try dsimp only at hSw);go_simp;try with_reducible rfl)
 try simp only[Act.put,List.getElem_toArray,List.getElem_cons_zero,List.getElem_cons_succ,List.setIfInBounds_toArray,List.set_cons_zero,List.set_cons_succ]
 refine wpAnyH_take (i:=9) (v:=?_) rfl (by kernel_rfl) (by kernel_rfl) (by kernel_rfl) (fun _ _ _ h=>h) (Or.inl ⟨by rfl,?_⟩) hHeld ?_
 rotate_left 1
 ·(intro w hSw;(try dsimp only at hSw);go_simp;try with_reducible rfl)
 try simp only[Act.put,List.getElem_toArray,List.getElem_cons_zero,List.getElem_cons_succ,List.setIfInBounds_toArray,List.set_cons_zero,List.set_cons_succ]
 refine wpAnyH_done (by kernel_rfl) ?_ _
 refine NoPanic.normal ?_
 go_wp2
 go_ret
 exact⟨rfl,((G.refl w).alloc _).drew⟩
theorem esc1_lo(c:Nat)(hc:c<32)(h:c≠10∧c≠9∧c≠13):esc1 (UInt8.ofNat c)=[92,120,hx (c/16),hx (c%16)]:=by
 have ht:(UInt8.ofNat c).toNat=c:=by rw[UInt8.toNat_ofNat',Nat.mod_eq_of_lt (by omega)]
 have hn:∀d:UInt8,c≠d.toNat→¬UInt8.ofNat c=d:=fun d hd e=>hd (by rw[←e,ht])
 unfold esc1
 rw[if_neg (hn 92 (show c≠92 by omega)),if_neg (hn 39 (show c≠39 by omega)),if_neg (hn 10 h.1),if_neg (hn 9 h.2.1),if_neg (hn 13 h.2.2),if_pos (.inl (by rw[ht];exact hc)),ht]
theorem rlet_92(w:World):Calls prog 100 #[.int .u8 92] w fun e w'=>e=.returned (.string (strU (esc1 92)))∧G w w':=by
 go_enter func100,ntmps100
 go_wp2
 go_ret
 exact⟨rfl,G.refl _⟩
theorem rlet_39(w:World):Calls prog 100 #[.int .u8 39] w fun e w'=>e=.returned (.string (strU (esc1 39)))∧G w w':=by
 go_enter func100,ntmps100
 go_wp2
 go_ret
 exact⟨rfl,G.refl _⟩
theorem rlet_10(w:World):Calls prog 100 #[.int .u8 10] w fun e w'=>e=.returned (.string (strU (esc1 10)))∧G w w':=by
 go_enter func100,ntmps100
 go_wp2
 go_ret
 exact⟨rfl,G.refl _⟩
theorem rlet_9(w:World):Calls prog 100 #[.int .u8 9] w fun e w'=>e=.returned (.string (strU (esc1 9)))∧G w w':=by
 go_enter func100,ntmps100
 go_wp2
 go_ret
 exact⟨rfl,G.refl _⟩
theorem rlet_13(w:World):Calls prog 100 #[.int .u8 13] w fun e w'=>e=.returned (.string (strU (esc1 13)))∧G w w':=by
 go_enter func100,ntmps100
 go_wp2
 go_ret
 exact⟨rfl,G.refl _⟩
theorem rlet_plain(c:Nat)(hc:c<256)(h32:¬c<32)(h92:¬(c:Int)=92)(h39:¬(c:Int)=39)(h10:¬(c:Int)=10)(h9:¬(c:Int)=9)(h13:¬(c:Int)=13)(h127:¬(c:Int)=127)(w:World):Calls prog 100 #[.int .u8 c] w fun e w'=>e=.returned (.string (strU [UInt8.ofNat c]))∧G w w':=by
 have hcv:=conv_1 w (UInt8.ofNat c) (c:Int) (by rw[UInt8.toNat_ofNat',Nat.mod_eq_of_lt hc])
 have h32I:¬(c:Int)<32:=by omega
 go_enter func100,ntmps100
 go_wp2
 go_ret
 exact⟨rfl,(G.refl w).alloc _⟩
theorem esc1_plain(c:Nat)(hc:c<256)(h:¬c<32∧c≠92∧c≠39∧c≠127):esc1 (UInt8.ofNat c)=[UInt8.ofNat c]:=by
 have ht:(UInt8.ofNat c).toNat=c:=by rw[UInt8.toNat_ofNat',Nat.mod_eq_of_lt hc]
 have hn:∀d:UInt8,c≠d.toNat→¬UInt8.ofNat c=d:=fun d hd e=>hd (by rw[←e,ht])
 unfold esc1
 rw[if_neg (hn 92 h.2.1),if_neg (hn 39 h.2.2.1),if_neg (hn 10 (show c≠10 by omega)),if_neg (hn 9 (show c≠9 by omega)),if_neg (hn 13 (show c≠13 by omega)),if_neg (fun x=>x.elim (fun y=>h.1 (by rw[ht] at y;exact y)) (hn 127 h.2.2.2))]
theorem rlet_any(c:Nat)(hc:c<256)(w:World):Calls prog 100 #[.int .u8 c] w fun e w'=>e=.returned (.string (strU (esc1 (UInt8.ofNat c))))∧G w w':=by
 by_cases h:¬c<32∧c≠92∧c≠39∧c≠127
 ·rw[esc1_plain c hc h]
  exact rlet_plain c hc h.1 (by omega) (by omega) (by omega) (by omega) (by omega) (by omega) w
 ·by_cases h3:c=10∨c=9∨c=13∨c=92∨c=39∨c=127
  ·rcases h3 with rfl|rfl|rfl|rfl|rfl|rfl
   ·exact rlet_10 w
   ·exact rlet_9 w
   ·exact rlet_13 w
   ·exact rlet_92 w
   ·exact rlet_39 w
   ·exact rlet_127 w
  ·have hb:∀d:Nat,c≠d→((c:Int)==(d:Int))=false:=fun d hd=>beq_false_of_ne (by omega)
   rw[esc1_lo c (by omega) (by omega)]
   exact rlet_lo c (by omega) (hb 92 (by omega)) (hb 39 (by omega)) (hb 10 (by omega)) (hb 9 (by omega)) (hb 13 (by omega)) w
end
end Go.Proofs.YthmdjhfbhbheeaaGreatDoor
