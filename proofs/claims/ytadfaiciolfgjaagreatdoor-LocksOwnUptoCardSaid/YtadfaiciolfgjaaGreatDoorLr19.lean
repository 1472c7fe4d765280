import Derived.Test.YtadfaiciolfgjaaGreatDoorLr18
import Derived.Test.YtadfaiciolfgjaaGreatDoorLr15
namespace Go.Proofs.YtadfaiciolfgjaaGreatDoor
open Go.Proofs.Tryz
set_option maxHeartbeats 4000000
set_option maxRecDepth 100000
section
open Go.RowKit
theorem app_one5(w7:World)(lo:Nat)(u:Value)(out:List Int)(y:Int)(hu:w7.ownsRow lo 3 1 u out.length (out.map fun z=>I z))(hl:out.length<4099999999999)(hlo:lo≤w7.heap.size) :
  ∃v' w9,(Builtin.append_ #[42,42] 42 #[u,.slice (some ⟨w7.heap.size,0,none⟩) 1 1]).run prog (w7.alloc (.cells #[I y] 3))=.ok v' w9∧w9.ownsRow lo 3 1 v' (out++[y]).length ((out++[y]).map fun z=>I z)∧(w7.alloc (.cells #[I y] 3)).grownBy w9 u.ownBlock∧(v'.ownBlock=u.ownBlock∨v'.ownBlock=some (w7.alloc (.cells #[I y] 3)).heap.size):=by
 obtain⟨i0,hi,hz0,hz1,hz2⟩:=info_parts (show(prog.info? 3).map (fun i=>(i.zero,i.size,i.bytes))=some (some (.int .i64 0),1,8)from by kernel_rfl)
 have gA:G w7 (w7.alloc (.cells #[I y] 3)):=(G.refl w7).alloc _
 have hmx:(4100000000000:Nat)≤maxLen:=of_decide_eq_true (by kernel_rfl)
 obtain⟨v',w9,q1,q2,q3,-,q5⟩:=run_append_own_at (P:=prog) (w:=w7.alloc (.cells #[I y] 3)) lo 42 42 3 i0 _ 1 8 underlying42 hi hz0 hz1 hz2 rfl (by decide) u out.length (out.map fun z=>I z) (own_G hu gA) ⟨w7.heap.size,0,none⟩ 1 1 [I y] rfl (fun j u hj=>by
  have e:j=0:=by
   have:=(List.getElem?_eq_some_iff.1 hj).1
   simp at this
   omega
  subst e
  have:=(Blk.new w7 [I y] 3).cell 0
  rw[hj] at this
  simpa [Addr.add] using this) (by simp[Value.oneCell']) (by omega) (by omega) (Nat.le_trans hlo gA.size)
 exact⟨v',w9,q1,by rw[List.length_append,List.map_append];exact q2,q3,q5⟩
structure GS(w wr:World)(b:Nat)(D:Nat→Prop)(tx:List Tx)(hd aq:List Lk)(got:List Int)(gv:Value)(rs:List Rs)(rv:Value)(D':Nat→Prop):Prop where
 rt:RT wr b ⟨tx,hd,aq⟩ D'
 gw:wr.ownsRow w.heap.size 3 1 gv got.length (got.map fun z=>I z)
 gn:∀k,gv.ownBlock=some k→¬D' k
 rw_:wr.ownsRow w.heap.size 33 3 rv rs.length (rc rs)
 rn:∀k,rv.ownBlock=some k→¬D' k
 chg:Chg D w wr
 new:∀k,D' k→D k∨w.heap.size≤k
section
variable {w V V':World} {b:Nat} {D D':Nat→Prop} {tx:List Tx} {hd aq hd' aq':List Lk} {got:List Int} {gv rv:Value} {rs:List Rs}
theorem GS.G(h:GS w V b D tx hd aq got gv rs rv D')(g:Go.Proofs.YtadfaiciolfgjaaGreatDoor.G V V'):GS w V' b D tx hd aq got gv rs rv D':=⟨h.rt.G g,own_G h.gw g,h.gn,own_G h.rw_ g,h.rn,h.chg.trans g.chg,h.new⟩
theorem GS.step(h:GS w V b D tx hd aq got gv rs rv D')(hs:Rst V D' b ⟨tx,hd',aq'⟩ V'):∃D'':Nat→Prop,GS w V' b D tx hd' aq' got gv rs rv D''∧Chg D' V V'∧∀k,k<V.heap.size→¬D' k→¬D'' k:=by
 obtain⟨D'',h1,h2,h3⟩:=hs
 have hk:∀k,k<V.heap.size→¬D' k→¬D'' k:=fun k hk hn hd=>by
  rcases h3 k hd with h4|h4
  ·exact hn h4
  ·omega
 refine⟨D'',⟨h1,own_chg h.gw h2 h.gn,fun k e=>hk k (own_lt h.gw e) (h.gn k e),own_chg h.rw_ h2 h.rn,fun k e=>hk k (own_lt h.rw_ e) (h.rn k e),h.chg.more h2 (fun i hi hd=>?_),fun k hd=>?_⟩,h2,hk⟩
 ·rcases h.new i hd with h4|h4
  ·exact h4
  ·omega
 ·rcases h3 k hd with h4|h4
  ·exact h.new k h4
  ·exact .inr (Nat.le_trans h.chg.size h4)
theorem GS.app(h:GS w V b D tx hd aq got gv rs rv D'){v9:Value}{y:Int}(r:V'.ownsRow w.heap.size 3 1 v9 (got++[y]).length ((got++[y]).map fun z=>I z))(c:Chg (fun k=>gv.ownBlock=some k) V V')(ho:∀k,v9.ownBlock=some k→gv.ownBlock=some k∨V.heap.size≤k):GS w V' b D tx hd aq (got++[y]) v9 rs rv D':=by
 refine⟨h.rt.chg c (fun k hd e=>h.gn k e hd),r,fun k e hd=>?_,own_chg h.rw_ c (fun k hk e=>own_apart h.rw_ h.gw (by decide) k hk e),h.rn,h.chg.more c (fun i hi e=>?_),h.new⟩
 ·rcases ho k e with h1|h1
  ·exact h.gn k h1 hd
  ·obtain⟨_,_,_,_,h2⟩:=h.rt
   have:=h2.dl k hd
   omega
 ·have:=(World.ownsRow.lt h.gw i e).1
  omega
def aLen(w:World)(b:Nat):Nat:=match w.cell? ⟨b,2,none⟩with|some (.slice _ n _)=>n|_=>0
theorem RT.alen{R:Rt}(h:RT w b R D):aLen w b=R.aq.length:=by
 obtain⟨vt,vh,va,tv,h⟩:=h
 obtain⟨a,c,rfl⟩:=row_form h.ra
 have:=h.blk.cell 2
 unfold aLen
 rw[this];rfl
theorem ms_a{A N n:Nat}(e:A=N)(h:n<N){B:Nat}(e2:B=N):B-((n:Int)+1).toNat<A-(n:Int).toNat:=by omega
theorem ms_b{A N n:Nat}(e:A=N)(h:n<N){B:Nat}(e2:B=N-1):B-(n:Int).toNat<A-(n:Int).toNat:=by omega
end
structure GJ(tx:List Tx)(rs:List Rs)(J:Nat→Nat→List Lk→List Lk→List Int→Prop):Prop where
 bd:∀i n hd aq got,J i n hd aq got→hd.length<400000000000∧aq.length<400000000000∧got.length<400000000000
 nxt:∀i hd aq got,i<rs.length→J i aq.length hd aq got→J (i+1) 0 hd aq got
 other:∀i n hd aq got r q,J i n hd aq got→rs[i]?=some r→aq[n]?=some q→q.r≠r→J i (n+1) hd aq got
 block:∀i n hd aq got r q,J i n hd aq got→rs[i]?=some r→aq[n]?=some q→q.r=r→inwP ⟨tx,hd,aq⟩ n q≠[]→J i (n+1) hd aq got
 give:∀i n hd aq got r q,J i n hd aq got→rs[i]?=some r→aq[n]?=some q→q.r=r→inwP ⟨tx,hd,aq⟩ n q=[]→J i n (holP q.x q.r q.c hd) (cutP n aq) (got++[q.x])
theorem cut_len1{n:Nat}{l:List Lk}(h:n<l.length):(cutP n l).length=l.length-1:=by
 unfold cutP
 rw[List.length_append,List.length_take,List.length_drop];omega
def GrP(w:World)(D:Nat→Prop)(b:Nat)(tx:List Tx)(rs:List Rs)(J:Nat→Nat→List Lk→List Lk→List Int→Prop)(e:Ending)(w':World):Prop:=∃v hd aq got D',e=.returned v∧J rs.length 0 hd aq got∧w'.ownsRow w.heap.size 3 1 v got.length (got.map fun z=>I z)∧RT w' b ⟨tx,hd,aq⟩ D'∧Chg D w w'∧(∀k,D' k→D k∨w.heap.size≤k)∧∀k,v.ownBlock=some k→¬D' k
theorem rc_cell3{w:World}{lo:Nat}{va:Option Addr}{vn vc:Nat}{l:List Rs}(h:w.ownsRow lo 33 3 (.slice va vn vc) l.length (rc l)){n:Nat}{a:Rs}(ha:l[n]?=some a):∃ga,va=some ⟨ga,0,none⟩∧(w.cell? ⟨ga,n*3,none⟩=some (I a.lv)∧w.cell? ⟨ga,n*3+1,none⟩=some (.string a.lb)∧w.cell? ⟨ga,n*3+2,none⟩=some (I a.id)):=rc_cell h ha
theorem grants_r{w:World}{b:Nat}{R:Rt}{D:Nat→Prop}{vt vh va:Value}{tv:List (Tx×Value)}(h:RV w b R D vt vh va tv)(J:Nat→Nat→List Lk→List Lk→List Int→Prop)(hJ:GJ R.tx (resP R.aq) J)(h0:J 0 0 R.hd R.aq [])(hl:R.aq.length<400000000000):Calls prog 36 #[ptr b] w (GrP w D b R.tx (resP R.aq) J):=by
 obtain⟨ra,rcap,rfl⟩:=row_form h.ra
 have H:=hide h;have HLL:=hide hl;have HJ:=hide hJ;have H0:=hide h0
 clear h hl hJ h0
 go_enter func36,ntmps36
 go_wp2_with fail
 go_loopw [3,4] (fun rv iv wr=>∃n:Nat,n≤R.aq.length∧iv=I (n:Int)∧wr.ownsRow w.heap.size 33 3 rv (resP (R.aq.take n)).length (rc (resP (R.aq.take n)))∧G w wr) (fun _ iv _=>R.aq.length-(RowKit.intOf iv).toNat)
 case atStart=>exact⟨0,Nat.zero_le _,rfl,⟨rfl,.inl ⟨rfl,rfl⟩⟩,G.refl _⟩
 case round=>
  obtain⟨n,hn,rfl,how,hgw⟩:=hrel
  have hll:=HLL.out
  have hR:=H.out.G hgw
  have hbc:=hR.blk.cell
  by_cases hlt:n<R.aq.length
  ·obtain⟨⟨ex,x,ec,eu⟩,he⟩:∃a,R.aq[n]?=some a:=⟨_,List.getElem?_eq_getElem hlt⟩
   obtain⟨gq,hgq,kc⟩:=row_cell lk_len hR.ra he
   subst hgq
   have q1:wr.cell? ⟨gq,n*6+1,none⟩=some (I x.lv):=kc 1 (by omega)
   have q2:wr.cell? ⟨gq,n*6+1+1,none⟩=some (.string x.lb):=kc 2 (by omega)
   have q3:wr.cell? ⟨gq,n*6+1+2,none⟩=some (I x.id):=kc 3 (by omega)
   have hnI:(n:Int)<(R.aq.length:Int):=by omega
   have hn0:(0:Int)≤(n:Int):=by omega
   have hwn:wrap64 ((n:Int)+1)=(n:Int)+1:=by unfold wrap64;omega
   have hst:resP (R.aq.take (n+1))=insR x (resP (R.aq.take n)):=by rw[take_lk he,resP_snoc]
   obtain⟨hup,hrl,-⟩:=resP_all (R.aq.take n)
   rw[List.length_take] at hrl
   obtain⟨rs,hrs⟩:∃rs,rs=resP (R.aq.take n):=⟨_,rfl⟩
   rw[←hrs] at hst hup hrl how
   obtain⟨va,vc,rfl⟩:=row_form how
   have HWN:=hide hwn;have HLTN:=hide hlt;have HSTN:=hide hst;have HUP:=hide hup
   have HRL:Hid (rs.length<400000000000):=by show _<_;omega
   obtain⟨vr,hvr⟩:∃vr,vr=Value.slice va rs.length vc:=⟨_,rfl⟩
   have HVR:=hide hvr
   have HB0:Hid (Blk (wr.alloc (.cells #[I x.lv,.string x.lb,I x.id] 33)) wr.heap.size 33 [I x.lv,.string x.lb,I x.id]∧G wr (wr.alloc (.cells #[I x.lv,.string x.lb,I x.id] 33))):=⟨Blk.new wr _ 33,(G.refl wr).alloc _⟩
   have HROW:=hide (own_G how HB0.out.2)
   have HGW0:=hide (hgw.trans HB0.out.2)
   clear hn hlt he hwn kc hll hgw hR how hst hup hrl hrs
   go_wp2_with fail
   obtain⟨w1,hw1⟩:∃w1,w1=wr.alloc (.cells #[I x.lv,.string x.lb,I x.id] 33):=⟨_,rfl⟩
   rw[←hw1] at HB0 HROW HGW0⊢
   obtain⟨xb,hxb⟩:∃xb,xb=wr.heap.size:=⟨_,rfl⟩
   rw[←hxb] at HB0⊢
   clear hw1 hxb hbc q1 q2 q3
   go_loopw [5,7,8] (fun ov dv iv wr=>∃j:Nat,j≤rs.length∧dv=.bool (dnR x (rs.take j))∧iv=I (j:Int)∧wr.ownsRow w1.heap.size 33 3 ov (outR x (rs.take j)).length (rc (outR x (rs.take j)))∧G w1 wr) (fun _ _ iv _=>rs.length-(RowKit.intOf iv).toNat)
   case atStart=>exact⟨0,Nat.zero_le _,rfl,rfl,⟨rfl,.inl ⟨rfl,rfl⟩⟩,G.refl _⟩
   case round=>
    obtain⟨j,hj,rfl,rfl,how,hgw⟩:=hrel
    have hll:=HRL.out
    have hol:=outR_len (x:=x) (rs.take j)
    rw[List.length_take] at hol
    by_cases hlt:j<rs.length
    ·obtain⟨a,ha⟩:∃a,rs[j]?=some a:=⟨_,List.getElem?_eq_getElem hlt⟩
     obtain⟨ga,hga,-⟩:=rc_cell3 HROW.out ha
     subst hga
     have HCC:Hid (∀U,G w1 U→(U.cell? ⟨ga,j*3,none⟩=some (I a.lv)∧U.cell? ⟨ga,j*3+1,none⟩=some (.string a.lb)∧U.cell? ⟨ga,j*3+2,none⟩=some (I a.id))∧∀o,U.cell? ⟨xb,o,none⟩=([I x.lv,.string x.lb,I x.id]:List Value)[o]?):=fun U hU=>by
      obtain⟨gb,hgb,hc⟩:=rc_cell3 (own_G HROW.out hU) ha
      have eg:ga=gb:=by simpa using hgb
      subst eg
      exact⟨hc,(HB0.out.1.G hU).cell⟩
     have HLEN:Hid ((outR x (rs.take j)).length<4100000000000):=by show _<_;omega
     have HLEN2:Hid ((outR x (rs.take j)++[x]).length<4100000000000):=by show _<_;rw[List.length_append,List.length_singleton];omega
     have KA:Hid (∀U,Calls prog 70 #[.agg #[I x.lv,.string x.lb,I x.id],.agg #[I a.lv,.string a.lb,I a.id]] U fun e w'=>e=.returned (.bool (rltB x a))∧G U w'):=fun U=>ahead_r x a U
     have hjI:(j:Int)<(rs.length:Int):=by omega
     have hj0:(0:Int)≤(j:Int):=by omega
     have hwj:wrap64 ((j:Int)+1)=(j:Int)+1:=by unfold wrap64;omega
     have htk:rs.take (j+1)=rs.take j++[a]:=by rw[List.take_add_one,ha];rfl
     have hab:=dnR_above (x:=x) HUP.out ha
     have HWJ:=hide hwj;have HLT:=hide hlt;have HGW:=hide hgw;have HOW:=hide how
     clear hj hlt hwj hll hol hgw how ha
     cases hd:dnR x (rs.take j)with
     | true=>
      have hxa:=hab hd
      have HST:=hide (outR_gt2 hd hxa)
      rw[←htk] at HST
      have hne:¬a=x:=fun e=>rLt_irrefl x (by rw[e] at hxa;exact hxa)
      clear hd htk hab hxa
      by_cases f1:a.lv=x.lv
      ·by_cases f2:a.lb=x.lb
       ·have f3:¬a.id=x.id:=fun f3=>hne (by cases a;cases x;simp at f1 f2 f3;simp[f1,f2,f3])
        have d3:decide (a.id=x.id)=false:=by simp[f3]
        have d4:(a.id==x.id)=false:=by simp[f3]
        clear hne
        have HF:=hide (And.intro f1 f2)
        clear f1 f2 f3
        obtain⟨⟨c1,c2,c3⟩,hx⟩:=HCC.out _ HGW.out
        have f1:=HF.out.1
        have f2:=HF.out.2
        rw[f1] at c1
        rw[f2] at c2
        clear f1 f2
        go_wp2_with fail
        go_quiet (fail)
        generalize hV:World.drewN wr _=V1
        have HV1:Hid (G wr V1):=by rw[←hV];exact(G.refl wr).drewN _
        clear hV c1 c2 c3 hx
        obtain⟨⟨c1,c2,c3⟩,hx⟩:=HCC.out _ (HGW.out.trans HV1.out)
        have f1:=HF.out.1
        have f2:=HF.out.2
        rw[f1] at c1
        rw[f2] at c2
        clear f1 f2
        go_wp2_with fail
        go_quiet (fail)
        generalize hV:World.drewN V1 _=V2
        have HV2:Hid (G V1 V2):=by rw[←hV];exact(G.refl V1).drewN _
        clear hV c1 c2 c3 hx
        obtain⟨v8,w8,r1,r2,r3⟩:=app_res2 V2 w1.heap.size _ _ a (own_G HOW.out (HV1.out.trans HV2.out)) HLEN.out (HGW.out.trans (HV1.out.trans HV2.out)).size
        have HA8:=hide r1
        have HR8:=hide r2
        have HG8:Hid (G w1 w8):=grown_G ((HGW.out.trans (HV1.out.trans HV2.out)).alloc _) r3 (fun k hk=>(World.ownsRow.lt (own_G HOW.out (HV1.out.trans HV2.out)) k hk).1)
        clear r1 r2 r3
        obtain⟨⟨c1,c2,c3⟩,hx⟩:=HCC.out _ (HGW.out.trans (HV1.out.trans HV2.out))
        go_wp2_with (first|(at_builtin;refine wpList_append_run rfl _ _ 82 rfl _ _ rfl rfl HA8.out ?_)|fail)
        exact⟨⟨j+1,HLT.out,by rw[HST.out.1],by rw[HWJ.out];exact rl1 j,by rw[HST.out.2];exact HR8.out,HG8.out⟩,by rw[HWJ.out];exact ms_end HLT.out⟩
       ·have d3:¬a.lb.toList=x.lb.toList:=fun q=>f2 (toList_inj q)
        have d4:(a.lb.toList==x.lb.toList)=false:=by simp[d3]
        clear hne
        have HF:=hide f1
        clear f1 f2
        obtain⟨⟨c1,c2,c3⟩,hx⟩:=HCC.out _ HGW.out
        have f1:=HF.out
        rw[f1] at c1
        clear f1
        go_wp2_with fail
        go_quiet (fail)
        generalize hV:World.drewN wr _=V1
        have HV1:Hid (G wr V1):=by rw[←hV];exact(G.refl wr).drewN _
        clear hV c1 c2 c3 hx
        obtain⟨⟨c1,c2,c3⟩,hx⟩:=HCC.out _ (HGW.out.trans HV1.out)
        have f1:=HF.out
        rw[f1] at c1
        clear f1
        go_wp2_with fail
        go_quiet (fail)
        generalize hV:World.drewN V1 _=V2
        have HV2:Hid (G V1 V2):=by rw[←hV];exact(G.refl V1).drewN _
        clear hV c1 c2 c3 hx
        obtain⟨v8,w8,r1,r2,r3⟩:=app_res2 V2 w1.heap.size _ _ a (own_G HOW.out (HV1.out.trans HV2.out)) HLEN.out (HGW.out.trans (HV1.out.trans HV2.out)).size
        have HA8:=hide r1
        have HR8:=hide r2
        have HG8:Hid (G w1 w8):=grown_G ((HGW.out.trans (HV1.out.trans HV2.out)).alloc _) r3 (fun k hk=>(World.ownsRow.lt (own_G HOW.out (HV1.out.trans HV2.out)) k hk).1)
        clear r1 r2 r3
        obtain⟨⟨c1,c2,c3⟩,hx⟩:=HCC.out _ (HGW.out.trans (HV1.out.trans HV2.out))
        go_wp2_with (first|(at_builtin;refine wpList_append_run rfl _ _ 82 rfl _ _ rfl rfl HA8.out ?_)|fail)
        exact⟨⟨j+1,HLT.out,by rw[HST.out.1],by rw[HWJ.out];exact rl1 j,by rw[HST.out.2];exact HR8.out,HG8.out⟩,by rw[HWJ.out];exact ms_end HLT.out⟩
      ·have d3:decide (a.lv=x.lv)=false:=by simp[f1]
       have d4:(a.lv==x.lv)=false:=by simp[f1]
       clear hne
       clear f1
       obtain⟨⟨c1,c2,c3⟩,hx⟩:=HCC.out _ HGW.out
       go_wp2_with fail
       go_quiet (fail)
       generalize hV:World.drewN wr _=V1
       have HV1:Hid (G wr V1):=by rw[←hV];exact(G.refl wr).drewN _
       clear hV c1 c2 c3 hx
       obtain⟨⟨c1,c2,c3⟩,hx⟩:=HCC.out _ (HGW.out.trans HV1.out)
       go_wp2_with fail
       go_quiet (fail)
       generalize hV:World.drewN V1 _=V2
       have HV2:Hid (G V1 V2):=by rw[←hV];exact(G.refl V1).drewN _
       clear hV c1 c2 c3 hx
       obtain⟨v8,w8,r1,r2,r3⟩:=app_res2 V2 w1.heap.size _ _ a (own_G HOW.out (HV1.out.trans HV2.out)) HLEN.out (HGW.out.trans (HV1.out.trans HV2.out)).size
       have HA8:=hide r1
       have HR8:=hide r2
       have HG8:Hid (G w1 w8):=grown_G ((HGW.out.trans (HV1.out.trans HV2.out)).alloc _) r3 (fun k hk=>(World.ownsRow.lt (own_G HOW.out (HV1.out.trans HV2.out)) k hk).1)
       clear r1 r2 r3
       obtain⟨⟨c1,c2,c3⟩,hx⟩:=HCC.out _ (HGW.out.trans (HV1.out.trans HV2.out))
       go_wp2_with (first|(at_builtin;refine wpList_append_run rfl _ _ 82 rfl _ _ rfl rfl HA8.out ?_)|fail)
       exact⟨⟨j+1,HLT.out,by rw[HST.out.1],by rw[HWJ.out];exact rl1 j,by rw[HST.out.2];exact HR8.out,HG8.out⟩,by rw[HWJ.out];exact ms_end HLT.out⟩
     | false=>
      clear hab
      rcases rLt_tot a x with hax|hax|hax
      ·have HST:=hide (outR_lt hd hax)
       rw[←htk] at HST
       have hne:¬a=x:=fun e=>rLt_irrefl x (by rw[e] at hax;exact hax)
       have hrf:rltB x a=false:=rltB_no.2 (rLt_asym hax)
       rw[hrf] at KA
       clear hd htk hax hrf
       by_cases f1:a.lv=x.lv
       ·by_cases f2:a.lb=x.lb
        ·have f3:¬a.id=x.id:=fun f3=>hne (by cases a;cases x;simp at f1 f2 f3;simp[f1,f2,f3])
         have d3:decide (a.id=x.id)=false:=by simp[f3]
         have d4:(a.id==x.id)=false:=by simp[f3]
         clear hne
         have HF:=hide (And.intro f1 f2)
         clear f1 f2 f3
         go_wp2_with fail
         refine wp_region_noPanic ?_
         refine wp_region_held_drew (S:=(fun U=>G w1 U)) (by kernel_rfl) (HGW.out.drew) (fun hHeld=>?_)
         refine wpAnyH_take (i:=0) (v:=?_) rfl (by kernel_rfl) (by kernel_rfl) (by kernel_rfl) (fun _ _ _ h=>h) (Or.inl ⟨by rfl,?_⟩) hHeld ?_
         rotate_left 1
         ·(intro w hSw;obtain⟨⟨c1,c2,c3⟩,hx⟩:=HCC.out _ hSw;have f1:=HF.out.1;have f2:=HF.out.2;rw[f1] at c1;rw[f2] at c2;clear f1 f2;go_simp;try with_reducible rfl)
         try simp only[Act.put,zzA,zzB,zzD,zzE,zzF]
         refine wpAnyH_take (i:=1) (v:=?_) rfl (by kernel_rfl) (by kernel_rfl) (by kernel_rfl) (fun _ _ _ h=>h) (Or.inl ⟨by rfl,?_⟩) hHeld ?_
         rotate_left 1
         ·(intro w hSw;obtain⟨⟨c1,c2,c3⟩,hx⟩:=HCC.out _ hSw;have f1:=HF.out.1;have f2:=HF.out.2;rw[f1] at c1;rw[f2] at c2;clear f1 f2;go_simp;try with_reducible rfl)
         try simp only[Act.put,zzA,zzB,zzC,zzD,zzE,zzF]
         refine wpAnyH_take (i:=2) (v:=?_) rfl (by kernel_rfl) (by kernel_rfl) (by kernel_rfl) (fun _ _ _ h=>h) (Or.inl ⟨by rfl,?_⟩) hHeld ?_
         rotate_left 1
         ·(intro w hSw;obtain⟨⟨c1,c2,c3⟩,hx⟩:=HCC.out _ hSw;have f1:=HF.out.1;have f2:=HF.out.2;rw[f1] at c1;rw[f2] at c2;clear f1 f2;go_simp;try with_reducible rfl)
         try simp only[Act.put,zzA,zzB,zzC,zzD,zzE,zzF]
         refine wpAnyH_take (i:=3) (v:=?_) rfl (by kernel_rfl) (by kernel_rfl) (by kernel_rfl) (fun _ _ _ h=>h) (Or.inl ⟨by rfl,?_⟩) hHeld ?_
         rotate_left 1
         ·(intro w hSw;obtain⟨⟨c1,c2,c3⟩,hx⟩:=HCC.out _ hSw;have f1:=HF.out.1;have f2:=HF.out.2;rw[f1] at c1;rw[f2] at c2;clear f1 f2;go_simp;try with_reducible rfl)
         try simp only[Act.put,zzA,zzB,zzC,zzD,zzE,zzF]
         refine wpAnyH_take (i:=4) (v:=?_) rfl (by kernel_rfl) (by kernel_rfl) (by kernel_rfl) (fun _ _ _ h=>h) (Or.inl ⟨by rfl,?_⟩) hHeld ?_
         rotate_left 1
         ·(intro w hSw;obtain⟨⟨c1,c2,c3⟩,hx⟩:=HCC.out _ hSw;have f1:=HF.out.1;have f2:=HF.out.2;rw[f1] at c1;rw[f2] at c2;clear f1 f2;go_simp;try with_reducible rfl)
         try simp only[Act.put,zzA,zzB,zzC,zzD,zzE,zzF]
         refine wpAnyH_take (i:=5) (v:=?_) rfl (by kernel_rfl) (by kernel_rfl) (by kernel_rfl) (fun _ _ _ h=>h) (Or.inl ⟨by rfl,?_⟩) hHeld ?_
         rotate_left 1
         ·(intro w hSw;obtain⟨⟨c1,c2,c3⟩,hx⟩:=HCC.out _ hSw;have f1:=HF.out.1;have f2:=HF.out.2;rw[f1] at c1;rw[f2] at c2;clear f1 f2;go_simp;try with_reducible rfl)
         try simp only[Act.put,zzA,zzB,zzC,zzD,zzE,zzF]
         refine wpAnyH_take (i:=6) (v:=?_) rfl (by kernel_rfl) (by kernel_rfl) (by kernel_rfl) (fun _ _ _ h=>h) (Or.inl ⟨by rfl,?_⟩) hHeld ?_
         rotate_left 1
         ·(intro w hSw;obtain⟨⟨c1,c2,c3⟩,hx⟩:=HCC.out _ hSw;have f1:=HF.out.1;have f2:=HF.out.2;rw[f1] at c1;rw[f2] at c2;clear f1 f2;go_simp;try with_reducible rfl)
         try simp only[Act.put,zzA,zzB,zzC,zzD,zzE,zzF]
         refine wpAnyH_take (i:=7) (v:=?_) rfl (by kernel_rfl) (by kernel_rfl) (by kernel_rfl) (fun _ _ _ h=>h) (Or.inl ⟨by rfl,?_⟩) hHeld ?_
         rotate_left 1
         ·(intro w hSw;obtain⟨⟨c1,c2,c3⟩,hx⟩:=HCC.out _ hSw;have f1:=HF.out.1;have f2:=HF.out.2;rw[f1] at c1;rw[f2] at c2;clear f1 f2;go_simp;try with_reducible rfl)
         try simp only[Act.put,zzA,zzB,zzC,zzD,zzE,zzF]
         refine wpAnyH_take (i:=8) (v:=?_) rfl (by kernel_rfl) (by kernel_rfl) (by kernel_rfl) (fun _ _ _ h=>h) (Or.inl ⟨by rfl,?_⟩) hHeld ?_
         rotate_left 1
         ·(intro w hSw;obtain⟨⟨c1,c2,c3⟩,hx⟩:=HCC.out _ hSw;have f1:=HF.out.1;have f2:=HF.out.2;rw[f1] at c1;rw[f2] at c2;clear f1 f2;go_simp;try with_reducible rfl)
         try simp only[Act.put,zzA,zzB,zzC,zzD,zzE,zzF]
         refine wpAnyH_take (i:=9) (v:=?_) rfl (by kernel_rfl) (by kernel_rfl) (by kernel_rfl) (fun _ _ _ h=>h) (Or.inl ⟨by rfl,?_⟩) hHeld ?_
         rotate_left 1
         ·(intro w hSw;obtain⟨⟨c1,c2,c3⟩,hx⟩:=HCC.out _ hSw;have f1:=HF.out.1;have f2:=HF.out.2;rw[f1] at c1;rw[f2] at c2;clear f1 f2;go_simp;try with_reducible rfl)
         try simp only[Act.put,zzA,zzB,zzC,zzD,zzE,zzF]
         refine wpAnyH_take (i:=10) (v:=?_) rfl (by kernel_rfl) (by kernel_rfl) (by kernel_rfl) (fun _ _ _ h=>h) (Or.inl ⟨by rfl,?_⟩) hHeld ?_
         rotate_left 1
         ·(intro w hSw;obtain⟨⟨c1,c2,c3⟩,hx⟩:=HCC.out w hSw;go_simp;try with_reducible rfl)
         try simp only[Act.put,zzA,zzB,zzC,zzD,zzE,zzF]
         refine wpAnyH_take (i:=11) (v:=?_) rfl (by kernel_rfl) (by kernel_rfl) (by kernel_rfl) (fun _ _ _ h=>h) (Or.inl ⟨by rfl,?_⟩) hHeld ?_
         rotate_left 1
         ·(intro w hSw;obtain⟨⟨c1,c2,c3⟩,hx⟩:=HCC.out w hSw;go_simp;try with_reducible rfl)
         try simp only[Act.put,zzA,zzB,zzC,zzD,zzE,zzF]
         refine wpAnyH_take (i:=12) (v:=?_) rfl (by kernel_rfl) (by kernel_rfl) (by kernel_rfl) (fun _ _ _ h=>h) (Or.inl ⟨by rfl,?_⟩) hHeld ?_
         rotate_left 1
         ·(intro w hSw;obtain⟨⟨c1,c2,c3⟩,hx⟩:=HCC.out w hSw;go_simp;try with_reducible rfl)
         try simp only[Act.put,zzA,zzB,zzC,zzD,zzE,zzF]
         refine wpAnyH_take (i:=13) (v:=?_) rfl (by kernel_rfl) (by kernel_rfl) (by kernel_rfl) (fun _ _ _ h=>h) (Or.inl ⟨by rfl,?_⟩) hHeld ?_
         rotate_left 1
         ·(intro w hSw;obtain⟨⟨c1,c2,c3⟩,hx⟩:=HCC.out w hSw;go_simp;try with_reducible rfl)
         try simp only[Act.put,zzA,zzB,zzC,zzD,zzE,zzF]
         refine wpAnyH_take (i:=14) (v:=?_) rfl (by kernel_rfl) (by kernel_rfl) (by kernel_rfl) (fun _ _ _ h=>h) (Or.inl ⟨by rfl,?_⟩) hHeld ?_
         rotate_left 1
         ·(intro w hSw;obtain⟨⟨c1,c2,c3⟩,hx⟩:=HCC.out w hSw;go_simp;try with_reducible rfl)
         try simp only[Act.put,zzA,zzB,zzC,zzD,zzE,zzF]
         refine wpAnyH_ready (rs:=[15]) (by kernel_rfl) (by simp) (AllReadyH.cons rfl (fun K hK=>?_) AllReadyH.nil)
         have hgc:=hHeld
         clear hHeld
         go_simp
         with_reducible refine(KA.out _).mono ?_
         rintro e w3 ⟨rfl,hg3⟩
         have HG3:Hid (G wr w3):=((G.refl wr).drew).trans hg3
         clear hg3 hgc
         refine hK.out _ _ (HGW.out.trans HG3.out) (fun hHeld=>?_)
         clear hK K
         try simp only[Act.put,zzA,zzB,zzC,zzD,zzE,zzF]
         refine wpAnyH_take (i:=16) (v:=?_) rfl (by kernel_rfl) (by kernel_rfl) (by kernel_rfl) (fun _ _ _ h=>h) (Or.inl ⟨by rfl,?_⟩) hHeld ?_
         rotate_left 1
         ·(intro w hSw;(try dsimp only at hSw);go_simp;try with_reducible rfl)
         try simp only[Act.put,zzA,zzB,zzC,zzD,zzE,zzF]
         refine wpAnyH_take (i:=17) (v:=?_) rfl (by kernel_rfl) (by kernel_rfl) (by kernel_rfl) (fun _ _ _ h=>h) (Or.inl ⟨by rfl,?_⟩) hHeld ?_
         rotate_left 1
         ·(intro w hSw;(try dsimp only at hSw);go_simp;try with_reducible rfl)
         try simp only[Act.put,zzA,zzB,zzC,zzD,zzE,zzF]
         refine wpAnyH_done (by kernel_rfl) ?_ _
         refine NoPanic.normal ?_
         go_wp2_with fail
         obtain⟨⟨c1,c2,c3⟩,hx⟩:=HCC.out _ (HGW.out.trans HG3.out)
         have f1:=HF.out.1
         have f2:=HF.out.2
         rw[f1] at c1
         rw[f2] at c2
         clear f1 f2
         go_wp2_with fail
         go_quiet (fail)
         generalize hV:World.drewN w3 _=V2
         have HV2:Hid (G w3 V2):=by rw[←hV];exact(G.refl w3).drewN _
         clear hV c1 c2 c3 hx
         obtain⟨v8,w8,r1,r2,r3⟩:=app_res2 V2 w1.heap.size _ _ a (own_G HOW.out (HG3.out.trans HV2.out)) HLEN.out (HGW.out.trans (HG3.out.trans HV2.out)).size
         have HA8:=hide r1
         have HR8:=hide r2
         have HG8:Hid (G w1 w8):=grown_G ((HGW.out.trans (HG3.out.trans HV2.out)).alloc _) r3 (fun k hk=>(World.ownsRow.lt (own_G HOW.out (HG3.out.trans HV2.out)) k hk).1)
         clear r1 r2 r3
         obtain⟨⟨c1,c2,c3⟩,hx⟩:=HCC.out _ (HGW.out.trans (HG3.out.trans HV2.out))
         go_wp2_with (first|(at_builtin;refine wpList_append_run rfl _ _ 82 rfl _ _ rfl rfl HA8.out ?_)|fail)
         exact⟨⟨j+1,HLT.out,by rw[HST.out.1],by rw[HWJ.out];exact rl1 j,by rw[HST.out.2];exact HR8.out,HG8.out⟩,by rw[HWJ.out];exact ms_end HLT.out⟩
        ·have d3:¬a.lb.toList=x.lb.toList:=fun q=>f2 (toList_inj q)
         have d4:(a.lb.toList==x.lb.toList)=false:=by simp[d3]
         clear hne
         have HF:=hide f1
         clear f1 f2
         go_wp2_with fail
         refine wp_region_noPanic ?_
         refine wp_region_held_drew (S:=(fun U=>G w1 U)) (by kernel_rfl) (HGW.out.drew) (fun hHeld=>?_)
         refine wpAnyH_take (i:=0) (v:=?_) rfl (by kernel_rfl) (by kernel_rfl) (by kernel_rfl) (fun _ _ _ h=>h) (Or.inl ⟨by rfl,?_⟩) hHeld ?_
         rotate_left 1
         ·(intro w hSw;obtain⟨⟨c1,c2,c3⟩,hx⟩:=HCC.out _ hSw;have f1:=HF.out;rw[f1] at c1;clear f1;go_simp;try with_reducible rfl)
         try simp only[Act.put,zzA,zzB,zzD,zzE,zzF]
         refine wpAnyH_take (i:=1) (v:=?_) rfl (by kernel_rfl) (by kernel_rfl) (by kernel_rfl) (fun _ _ _ h=>h) (Or.inl ⟨by rfl,?_⟩) hHeld ?_
         rotate_left 1
         ·(intro w hSw;obtain⟨⟨c1,c2,c3⟩,hx⟩:=HCC.out _ hSw;have f1:=HF.out;rw[f1] at c1;clear f1;go_simp;try with_reducible rfl)
         try simp only[Act.put,zzA,zzB,zzC,zzD,zzE,zzF]
         refine wpAnyH_take (i:=2) (v:=?_) rfl (by kernel_rfl) (by kernel_rfl) (by kernel_rfl) (fun _ _ _ h=>h) (Or.inl ⟨by rfl,?_⟩) hHeld ?_
         rotate_left 1
         ·(intro w hSw;obtain⟨⟨c1,c2,c3⟩,hx⟩:=HCC.out _ hSw;have f1:=HF.out;rw[f1] at c1;clear f1;go_simp;try with_reducible rfl)
         try simp only[Act.put,zzA,zzB,zzC,zzD,zzE,zzF]
         refine wpAnyH_take (i:=3) (v:=?_) rfl (by kernel_rfl) (by kernel_rfl) (by kernel_rfl) (fun _ _ _ h=>h) (Or.inl ⟨by rfl,?_⟩) hHeld ?_
         rotate_left 1
         ·(intro w hSw;obtain⟨⟨c1,c2,c3⟩,hx⟩:=HCC.out _ hSw;have f1:=HF.out;rw[f1] at c1;clear f1;go_simp;try with_reducible rfl)
         try simp only[Act.put,zzA,zzB,zzC,zzD,zzE,zzF]
         refine wpAnyH_take (i:=4) (v:=?_) rfl (by kernel_rfl) (by kernel_rfl) (by kernel_rfl) (fun _ _ _ h=>h) (Or.inl ⟨by rfl,?_⟩) hHeld ?_
         rotate_left 1
         ·(intro w hSw;obtain⟨⟨c1,c2,c3⟩,hx⟩:=HCC.out _ hSw;have f1:=HF.out;rw[f1] at c1;clear f1;go_simp;try with_reducible rfl)
         try simp only[Act.put,zzA,zzB,zzC,zzD,zzE,zzF]
         refine wpAnyH_take (i:=5) (v:=?_) rfl (by kernel_rfl) (by kernel_rfl) (by kernel_rfl) (fun _ _ _ h=>h) (Or.inl ⟨by rfl,?_⟩) hHeld ?_
         rotate_left 1
         ·(intro w hSw;obtain⟨⟨c1,c2,c3⟩,hx⟩:=HCC.out _ hSw;have f1:=HF.out;rw[f1] at c1;clear f1;go_simp;try with_reducible rfl)
         try simp only[Act.put,zzA,zzB,zzC,zzD,zzE,zzF]
         refine wpAnyH_take (i:=6) (v:=?_) rfl (by kernel_rfl) (by kernel_rfl) (by kernel_rfl) (fun _ _ _ h=>h) (Or.inl ⟨by rfl,?_⟩) hHeld ?_
         rotate_left 1
         ·(intro w hSw;obtain⟨⟨c1,c2,c3⟩,hx⟩:=HCC.out _ hSw;have f1:=HF.out;rw[f1] at c1;clear f1;go_simp;try with_reducible rfl)
         try simp only[Act.put,zzA,zzB,zzC,zzD,zzE,zzF]
         refine wpAnyH_take (i:=7) (v:=?_) rfl (by kernel_rfl) (by kernel_rfl) (by kernel_rfl) (fun _ _ _ h=>h) (Or.inl ⟨by rfl,?_⟩) hHeld ?_
         rotate_left 1
         ·(intro w hSw;obtain⟨⟨c1,c2,c3⟩,hx⟩:=HCC.out _ hSw;have f1:=HF.out;rw[f1] at c1;clear f1;go_simp;try with_reducible rfl)
         try simp only[Act.put,zzA,zzB,zzC,zzD,zzE,zzF]
         refine wpAnyH_take (i:=8) (v:=?_) rfl (by kernel_rfl) (by kernel_rfl) (by kernel_rfl) (fun _ _ _ h=>h) (Or.inl ⟨by rfl,?_⟩) hHeld ?_
         rotate_left 1
         ·(intro w hSw;obtain⟨⟨c1,c2,c3⟩,hx⟩:=HCC.out _ hSw;have f1:=HF.out;rw[f1] at c1;clear f1;go_simp;try with_reducible rfl)
         try simp only[Act.put,zzA,zzB,zzC,zzD,zzE,zzF]
         refine wpAnyH_take (i:=9) (v:=?_) rfl (by kernel_rfl) (by kernel_rfl) (by kernel_rfl) (fun _ _ _ h=>h) (Or.inl ⟨by rfl,?_⟩) hHeld ?_
         rotate_left 1
         ·(intro w hSw;obtain⟨⟨c1,c2,c3⟩,hx⟩:=HCC.out _ hSw;have f1:=HF.out;rw[f1] at c1;clear f1;go_simp;try with_reducible rfl)
         try simp only[Act.put,zzA,zzB,zzC,zzD,zzE,zzF]
         refine wpAnyH_take (i:=10) (v:=?_) rfl (by kernel_rfl) (by kernel_rfl) (by kernel_rfl) (fun _ _ _ h=>h) (Or.inl ⟨by rfl,?_⟩) hHeld ?_
         rotate_left 1
         ·(intro w hSw;obtain⟨⟨c1,c2,c3⟩,hx⟩:=HCC.out w hSw;go_simp;try with_reducible rfl)
         try simp only[Act.put,zzA,zzB,zzC,zzD,zzE,zzF]
         refine wpAnyH_take (i:=11) (v:=?_) rfl (by kernel_rfl) (by kernel_rfl) (by kernel_rfl) (fun _ _ _ h=>h) (Or.inl ⟨by rfl,?_⟩) hHeld ?_
         rotate_left 1
         ·(intro w hSw;obtain⟨⟨c1,c2,c3⟩,hx⟩:=HCC.out w hSw;go_simp;try with_reducible rfl)
         try simp only[Act.put,zzA,zzB,zzC,zzD,zzE,zzF]
         refine wpAnyH_take (i:=12) (v:=?_) rfl (by kernel_rfl) (by kernel_rfl) (by kernel_rfl) (fun _ _ _ h=>h) (Or.inl ⟨by rfl,?_⟩) hHeld ?_
         rotate_left 1
         ·(intro w hSw;obtain⟨⟨c1,c2,c3⟩,hx⟩:=HCC.out w hSw;go_simp;try with_reducible rfl)
         try simp only[Act.put,zzA,zzB,zzC,zzD,zzE,zzF]
         refine wpAnyH_take (i:=13) (v:=?_) rfl (by kernel_rfl) (by kernel_rfl) (by kernel_rfl) (fun _ _ _ h=>h) (Or.inl ⟨by rfl,?_⟩) hHeld ?_
         rotate_left 1
         ·(intro w hSw;obtain⟨⟨c1,c2,c3⟩,hx⟩:=HCC.out w hSw;go_simp;try with_reducible rfl)
         try simp only[Act.put,zzA,zzB,zzC,zzD,zzE,zzF]
         refine wpAnyH_take (i:=14) (v:=?_) rfl (by kernel_rfl) (by kernel_rfl) (by kernel_rfl) (fun _ _ _ h=>h) (Or.inl ⟨by rfl,?_⟩) hHeld ?_
         rotate_left 1
         ·(intro w hSw;obtain⟨⟨c1,c2,c3⟩,hx⟩:=HCC.out w hSw;go_simp;try with_reducible rfl)
         try simp only[Act.put,zzA,zzB,zzC,zzD,zzE,zzF]
         refine wpAnyH_ready (rs:=[15]) (by kernel_rfl) (by simp) (AllReadyH.cons rfl (fun K hK=>?_) AllReadyH.nil)
         have hgc:=hHeld
         clear hHeld
         go_simp
         with_reducible refine(KA.out _).mono ?_
         rintro e w3 ⟨rfl,hg3⟩
         have HG3:Hid (G wr w3):=((G.refl wr).drew).trans hg3
         clear hg3 hgc
         refine hK.out _ _ (HGW.out.trans HG3.out) (fun hHeld=>?_)
         clear hK K
         try simp only[Act.put,zzA,zzB,zzC,zzD,zzE,zzF]
         refine wpAnyH_take (i:=16) (v:=?_) rfl (by kernel_rfl) (by kernel_rfl) (by kernel_rfl) (fun _ _ _ h=>h) (Or.inl ⟨by rfl,?_⟩) hHeld ?_
         rotate_left 1
         ·(intro w hSw;(try dsimp only at hSw);go_simp;try with_reducible rfl)
         try simp only[Act.put,zzA,zzB,zzC,zzD,zzE,zzF]
         refine wpAnyH_take (i:=17) (v:=?_) rfl (by kernel_rfl) (by kernel_rfl) (by kernel_rfl) (fun _ _ _ h=>h) (Or.inl ⟨by rfl,?_⟩) hHeld ?_
         rotate_left 1
         ·(intro w hSw;(try dsimp only at hSw);go_simp;try with_reducible rfl)
         try simp only[Act.put,zzA,zzB,zzC,zzD,zzE,zzF]
         refine wpAnyH_done (by kernel_rfl) ?_ _
         refine NoPanic.normal ?_
         go_wp2_with fail
         obtain⟨⟨c1,c2,c3⟩,hx⟩:=HCC.out _ (HGW.out.trans HG3.out)
         have f1:=HF.out
         rw[f1] at c1
         clear f1
         go_wp2_with fail
         go_quiet (fail)
         generalize hV:World.drewN w3 _=V2
         have HV2:Hid (G w3 V2):=by rw[←hV];exact(G.refl w3).drewN _
         clear hV c1 c2 c3 hx
         obtain⟨v8,w8,r1,r2,r3⟩:=app_res2 V2 w1.heap.size _ _ a (own_G HOW.out (HG3.out.trans HV2.out)) HLEN.out (HGW.out.trans (HG3.out.trans HV2.out)).size
         have HA8:=hide r1
         have HR8:=hide r2
         have HG8:Hid (G w1 w8):=grown_G ((HGW.out.trans (HG3.out.trans HV2.out)).alloc _) r3 (fun k hk=>(World.ownsRow.lt (own_G HOW.out (HG3.out.trans HV2.out)) k hk).1)
         clear r1 r2 r3
         obtain⟨⟨c1,c2,c3⟩,hx⟩:=HCC.out _ (HGW.out.trans (HG3.out.trans HV2.out))
         go_wp2_with (first|(at_builtin;refine wpList_append_run rfl _ _ 82 rfl _ _ rfl rfl HA8.out ?_)|fail)
         exact⟨⟨j+1,HLT.out,by rw[HST.out.1],by rw[HWJ.out];exact rl1 j,by rw[HST.out.2];exact HR8.out,HG8.out⟩,by rw[HWJ.out];exact ms_end HLT.out⟩
       ·have d3:decide (a.lv=x.lv)=false:=by simp[f1]
        have d4:(a.lv==x.lv)=false:=by simp[f1]
        clear hne
        clear f1
        go_wp2_with fail
        refine wp_region_noPanic ?_
        refine wp_region_held_drew (S:=(fun U=>G w1 U)) (by kernel_rfl) (HGW.out.drew) (fun hHeld=>?_)
        refine wpAnyH_take (i:=0) (v:=?_) rfl (by kernel_rfl) (by kernel_rfl) (by kernel_rfl) (fun _ _ _ h=>h) (Or.inl ⟨by rfl,?_⟩) hHeld ?_
        rotate_left 1
        ·(intro w hSw;obtain⟨⟨c1,c2,c3⟩,hx⟩:=HCC.out _ hSw;go_simp;try with_reducible rfl)
        try simp only[Act.put,zzA,zzB,zzD,zzE,zzF]
        refine wpAnyH_take (i:=1) (v:=?_) rfl (by kernel_rfl) (by kernel_rfl) (by kernel_rfl) (fun _ _ _ h=>h) (Or.inl ⟨by rfl,?_⟩) hHeld ?_
        rotate_left 1
        ·(intro w hSw;obtain⟨⟨c1,c2,c3⟩,hx⟩:=HCC.out _ hSw;go_simp;try with_reducible rfl)
        try simp only[Act.put,zzA,zzB,zzC,zzD,zzE,zzF]
        refine wpAnyH_take (i:=2) (v:=?_) rfl (by kernel_rfl) (by kernel_rfl) (by kernel_rfl) (fun _ _ _ h=>h) (Or.inl ⟨by rfl,?_⟩) hHeld ?_
        rotate_left 1
        ·(intro w hSw;obtain⟨⟨c1,c2,c3⟩,hx⟩:=HCC.out _ hSw;go_simp;try with_reducible rfl)
        try simp only[Act.put,zzA,zzB,zzC,zzD,zzE,zzF]
        refine wpAnyH_take (i:=3) (v:=?_) rfl (by kernel_rfl) (by kernel_rfl) (by kernel_rfl) (fun _ _ _ h=>h) (Or.inl ⟨by rfl,?_⟩) hHeld ?_
        rotate_left 1
        ·(intro w hSw;obtain⟨⟨c1,c2,c3⟩,hx⟩:=HCC.out _ hSw;go_simp;try with_reducible rfl)
        try simp only[Act.put,zzA,zzB,zzC,zzD,zzE,zzF]
        refine wpAnyH_take (i:=4) (v:=?_) rfl (by kernel_rfl) (by kernel_rfl) (by kernel_rfl) (fun _ _ _ h=>h) (Or.inl ⟨by rfl,?_⟩) hHeld ?_
        rotate_left 1
        ·(intro w hSw;obtain⟨⟨c1,c2,c3⟩,hx⟩:=HCC.out _ hSw;go_simp;try with_reducible rfl)
        try simp only[Act.put,zzA,zzB,zzC,zzD,zzE,zzF]
        refine wpAnyH_take (i:=5) (v:=?_) rfl (by kernel_rfl) (by kernel_rfl) (by kernel_rfl) (fun _ _ _ h=>h) (Or.inl ⟨by rfl,?_⟩) hHeld ?_
        rotate_left 1
        ·(intro w hSw;obtain⟨⟨c1,c2,c3⟩,hx⟩:=HCC.out _ hSw;go_simp;try with_reducible rfl)
        try simp only[Act.put,zzA,zzB,zzC,zzD,zzE,zzF]
        refine wpAnyH_take (i:=6) (v:=?_) rfl (by kernel_rfl) (by kernel_rfl) (by kernel_rfl) (fun _ _ _ h=>h) (Or.inl ⟨by rfl,?_⟩) hHeld ?_
        rotate_left 1
        ·(intro w hSw;obtain⟨⟨c1,c2,c3⟩,hx⟩:=HCC.out _ hSw;go_simp;try with_reducible rfl)
        try simp only[Act.put,zzA,zzB,zzC,zzD,zzE,zzF]
        refine wpAnyH_take (i:=7) (v:=?_) rfl (by kernel_rfl) (by kernel_rfl) (by kernel_rfl) (fun _ _ _ h=>h) (Or.inl ⟨by rfl,?_⟩) hHeld ?_
        rotate_left 1
        ·(intro w hSw;obtain⟨⟨c1,c2,c3⟩,hx⟩:=HCC.out _ hSw;go_simp;try with_reducible rfl)
        try simp only[Act.put,zzA,zzB,zzC,zzD,zzE,zzF]
        refine wpAnyH_take (i:=8) (v:=?_) rfl (by kernel_rfl) (by kernel_rfl) (by kernel_rfl) (fun _ _ _ h=>h) (Or.inl ⟨by rfl,?_⟩) hHeld ?_
        rotate_left 1
        ·(intro w hSw;obtain⟨⟨c1,c2,c3⟩,hx⟩:=HCC.out _ hSw;go_simp;try with_reducible rfl)
        try simp only[Act.put,zzA,zzB,zzC,zzD,zzE,zzF]
        refine wpAnyH_take (i:=9) (v:=?_) rfl (by kernel_rfl) (by kernel_rfl) (by kernel_rfl) (fun _ _ _ h=>h) (Or.inl ⟨by rfl,?_⟩) hHeld ?_
        rotate_left 1
        ·(intro w hSw;obtain⟨⟨c1,c2,c3⟩,hx⟩:=HCC.out _ hSw;go_simp;try with_reducible rfl)
        try simp only[Act.put,zzA,zzB,zzC,zzD,zzE,zzF]
        refine wpAnyH_take (i:=10) (v:=?_) rfl (by kernel_rfl) (by kernel_rfl) (by kernel_rfl) (fun _ _ _ h=>h) (Or.inl ⟨by rfl,?_⟩) hHeld ?_
        rotate_left 1
        ·(intro w hSw;obtain⟨⟨c1,c2,c3⟩,hx⟩:=HCC.out w hSw;go_simp;try with_reducible rfl)
        try simp only[Act.put,zzA,zzB,zzC,zzD,zzE,zzF]
        refine wpAnyH_take (i:=11) (v:=?_) rfl (by kernel_rfl) (by kernel_rfl) (by kernel_rfl) (fun _ _ _ h=>h) (Or.inl ⟨by rfl,?_⟩) hHeld ?_
        rotate_left 1
        ·(intro w hSw;obtain⟨⟨c1,c2,c3⟩,hx⟩:=HCC.out w hSw;go_simp;try with_reducible rfl)
        try simp only[Act.put,zzA,zzB,zzC,zzD,zzE,zzF]
        refine wpAnyH_take (i:=12) (v:=?_) rfl (by kernel_rfl) (by kernel_rfl) (by kernel_rfl) (fun _ _ _ h=>h) (Or.inl ⟨by rfl,?_⟩) hHeld ?_
        rotate_left 1
        ·(intro w hSw;obtain⟨⟨c1,c2,c3⟩,hx⟩:=HCC.out w hSw;go_simp;try with_reducible rfl)
        try simp only[Act.put,zzA,zzB,zzC,zzD,zzE,zzF]
        refine wpAnyH_take (i:=13) (v:=?_) rfl (by kernel_rfl) (by kernel_rfl) (by kernel_rfl) (fun _ _ _ h=>h) (Or.inl ⟨by rfl,?_⟩) hHeld ?_
        rotate_left 1
        ·(intro w hSw;obtain⟨⟨c1,c2,c3⟩,hx⟩:=HCC.out w hSw;go_simp;try with_reducible rfl)
        try simp only[Act.put,zzA,zzB,zzC,zzD,zzE,zzF]
        refine wpAnyH_take (i:=14) (v:=?_) rfl (by kernel_rfl) (by kernel_rfl) (by kernel_rfl) (fun _ _ _ h=>h) (Or.inl ⟨by rfl,?_⟩) hHeld ?_
        rotate_left 1
        ·(intro w hSw;obtain⟨⟨c1,c2,c3⟩,hx⟩:=HCC.out w hSw;go_simp;try with_reducible rfl)
        try simp only[Act.put,zzA,zzB,zzC,zzD,zzE,zzF]
        refine wpAnyH_ready (rs:=[15]) (by kernel_rfl) (by simp) (AllReadyH.cons rfl (fun K hK=>?_) AllReadyH.nil)
        have hgc:=hHeld
        clear hHeld
        go_simp
        with_reducible refine(KA.out _).mono ?_
        rintro e w3 ⟨rfl,hg3⟩
        have HG3:Hid (G wr w3):=((G.refl wr).drew).trans hg3
        clear hg3 hgc
        refine hK.out _ _ (HGW.out.trans HG3.out) (fun hHeld=>?_)
        clear hK K
        try simp only[Act.put,zzA,zzB,zzC,zzD,zzE,zzF]
        refine wpAnyH_take (i:=16) (v:=?_) rfl (by kernel_rfl) (by kernel_rfl) (by kernel_rfl) (fun _ _ _ h=>h) (Or.inl ⟨by rfl,?_⟩) hHeld ?_
        rotate_left 1
        ·(intro w hSw;(try dsimp only at hSw);go_simp;try with_reducible rfl)
        try simp only[Act.put,zzA,zzB,zzC,zzD,zzE,zzF]
        refine wpAnyH_take (i:=17) (v:=?_) rfl (by kernel_rfl) (by kernel_rfl) (by kernel_rfl) (fun _ _ _ h=>h) (Or.inl ⟨by rfl,?_⟩) hHeld ?_
        rotate_left 1
        ·(intro w hSw;(try dsimp only at hSw);go_simp;try with_reducible rfl)
        try simp only[Act.put,zzA,zzB,zzC,zzD,zzE,zzF]
        refine wpAnyH_done (by kernel_rfl) ?_ _
        refine NoPanic.normal ?_
        go_wp2_with fail
        obtain⟨⟨c1,c2,c3⟩,hx⟩:=HCC.out _ (HGW.out.trans HG3.out)
        go_wp2_with fail
        go_quiet (fail)
        generalize hV:World.drewN w3 _=V2
        have HV2:Hid (G w3 V2):=by rw[←hV];exact(G.refl w3).drewN _
        clear hV c1 c2 c3 hx
        obtain⟨v8,w8,r1,r2,r3⟩:=app_res2 V2 w1.heap.size _ _ a (own_G HOW.out (HG3.out.trans HV2.out)) HLEN.out (HGW.out.trans (HG3.out.trans HV2.out)).size
        have HA8:=hide r1
        have HR8:=hide r2
        have HG8:Hid (G w1 w8):=grown_G ((HGW.out.trans (HG3.out.trans HV2.out)).alloc _) r3 (fun k hk=>(World.ownsRow.lt (own_G HOW.out (HG3.out.trans HV2.out)) k hk).1)
        clear r1 r2 r3
        obtain⟨⟨c1,c2,c3⟩,hx⟩:=HCC.out _ (HGW.out.trans (HG3.out.trans HV2.out))
        go_wp2_with (first|(at_builtin;refine wpList_append_run rfl _ _ 82 rfl _ _ rfl rfl HA8.out ?_)|fail)
        exact⟨⟨j+1,HLT.out,by rw[HST.out.1],by rw[HWJ.out];exact rl1 j,by rw[HST.out.2];exact HR8.out,HG8.out⟩,by rw[HWJ.out];exact ms_end HLT.out⟩
      ·have HAX:=hide hax
       have HST:Hid (dnR x (rs.take (j+1))=true∧outR x (rs.take (j+1))=outR x (rs.take j)++[x]):=by
        rw[htk,hax]
        exact outR_eq hd
       clear hd htk hax
       obtain⟨⟨c1,c2,c3⟩,hx⟩:=HCC.out _ HGW.out
       rw[HAX.out] at c1 c2 c3
       go_wp2_with fail
       go_quiet (fail)
       generalize hV:World.drewN wr _=V1
       have HV1:Hid (G wr V1):=by rw[←hV];exact(G.refl wr).drewN _
       clear hV c1 c2 c3 hx
       obtain⟨v8,w8,r1,r2,r3⟩:=app_res2 V1 w1.heap.size _ _ x (own_G HOW.out HV1.out) HLEN.out (HGW.out.trans HV1.out).size
       have HA8:=hide r1
       have HR8:=hide r2
       have HG8:Hid (G w1 w8):=grown_G ((HGW.out.trans HV1.out).alloc _) r3 (fun k hk=>(World.ownsRow.lt (own_G HOW.out HV1.out) k hk).1)
       clear r1 r2 r3
       obtain⟨⟨c1,c2,c3⟩,hx⟩:=HCC.out _ (HGW.out.trans HV1.out)
       go_wp2_with (first|(at_builtin;refine wpList_append_run rfl _ _ 82 rfl _ _ rfl rfl HA8.out ?_;refine Hid.out ?_)|fail)
       unfold Hid
       clear c1 c2 c3 hx
       obtain⟨⟨c1,c2,c3⟩,hx⟩:=HCC.out _ HG8.out
       rw[HAX.out] at c1 c2 c3
       go_wp2_with fail
       go_quiet (fail)
       generalize hV:World.drewN w8 _=V2
       have HV2:Hid (G w8 V2):=by rw[←hV];exact(G.refl w8).drewN _
       clear hV c1 c2 c3 hx
       go_wp2_with fail
       exact⟨⟨j+1,HLT.out,by rw[HST.out.1],by rw[HWJ.out];exact rl1 j,by rw[HST.out.2];exact own_G HR8.out HV2.out,HG8.out.trans HV2.out⟩,by rw[HWJ.out];exact ms_end HLT.out⟩
      ·have HST:=hide (outR_gt1 hd hax)
       rw[←htk] at HST
       have hne:¬a=x:=fun e=>rLt_irrefl x (by rw[e] at hax;exact hax)
       have hrf:rltB x a=true:=rltB_iff.2 hax
       rw[hrf] at KA
       clear hd htk hax hrf
       by_cases f1:a.lv=x.lv
       ·by_cases f2:a.lb=x.lb
        ·have f3:¬a.id=x.id:=fun f3=>hne (by cases a;cases x;simp at f1 f2 f3;simp[f1,f2,f3])
         have d3:decide (a.id=x.id)=false:=by simp[f3]
         have d4:(a.id==x.id)=false:=by simp[f3]
         clear hne
         have HF:=hide (And.intro f1 f2)
         clear f1 f2 f3
         go_wp2_with fail
         refine wp_region_noPanic ?_
         refine wp_region_held_drew (S:=(fun U=>G w1 U)) (by kernel_rfl) (HGW.out.drew) (fun hHeld=>?_)
         refine wpAnyH_take (i:=0) (v:=?_) rfl (by kernel_rfl) (by kernel_rfl) (by kernel_rfl) (fun _ _ _ h=>h) (Or.inl ⟨by rfl,?_⟩) hHeld ?_
         rotate_left 1
         ·(intro w hSw;obtain⟨⟨c1,c2,c3⟩,hx⟩:=HCC.out _ hSw;have f1:=HF.out.1;have f2:=HF.out.2;rw[f1] at c1;rw[f2] at c2;clear f1 f2;go_simp;try with_reducible rfl)
         try simp only[Act.put,zzA,zzB,zzD,zzE,zzF]
         refine wpAnyH_take (i:=1) (v:=?_) rfl (by kernel_rfl) (by kernel_rfl) (by kernel_rfl) (fun _ _ _ h=>h) (Or.inl ⟨by rfl,?_⟩) hHeld ?_
         rotate_left 1
         ·(intro w hSw;obtain⟨⟨c1,c2,c3⟩,hx⟩:=HCC.out _ hSw;have f1:=HF.out.1;have f2:=HF.out.2;rw[f1] at c1;rw[f2] at c2;clear f1 f2;go_simp;try with_reducible rfl)
         try simp only[Act.put,zzA,zzB,zzC,zzD,zzE,zzF]
         refine wpAnyH_take (i:=2) (v:=?_) rfl (by kernel_rfl) (by kernel_rfl) (by kernel_rfl) (fun _ _ _ h=>h) (Or.inl ⟨by rfl,?_⟩) hHeld ?_
         rotate_left 1
         ·(intro w hSw;obtain⟨⟨c1,c2,c3⟩,hx⟩:=HCC.out _ hSw;have f1:=HF.out.1;have f2:=HF.out.2;rw[f1] at c1;rw[f2] at c2;clear f1 f2;go_simp;try with_reducible rfl)
         try simp only[Act.put,zzA,zzB,zzC,zzD,zzE,zzF]
         refine wpAnyH_take (i:=3) (v:=?_) rfl (by kernel_rfl) (by kernel_rfl) (by kernel_rfl) (fun _ _ _ h=>h) (Or.inl ⟨by rfl,?_⟩) hHeld ?_
         rotate_left 1
         ·(intro w hSw;obtain⟨⟨c1,c2,c3⟩,hx⟩:=HCC.out _ hSw;have f1:=HF.out.1;have f2:=HF.out.2;rw[f1] at c1;rw[f2] at c2;clear f1 f2;go_simp;try with_reducible rfl)
         try simp only[Act.put,zzA,zzB,zzC,zzD,zzE,zzF]
         refine wpAnyH_take (i:=4) (v:=?_) rfl (by kernel_rfl) (by kernel_rfl) (by kernel_rfl) (fun _ _ _ h=>h) (Or.inl ⟨by rfl,?_⟩) hHeld ?_
         rotate_left 1
         ·(intro w hSw;obtain⟨⟨c1,c2,c3⟩,hx⟩:=HCC.out _ hSw;have f1:=HF.out.1;have f2:=HF.out.2;rw[f1] at c1;rw[f2] at c2;clear f1 f2;go_simp;try with_reducible rfl)
         try simp only[Act.put,zzA,zzB,zzC,zzD,zzE,zzF]
         refine wpAnyH_take (i:=5) (v:=?_) rfl (by kernel_rfl) (by kernel_rfl) (by kernel_rfl) (fun _ _ _ h=>h) (Or.inl ⟨by rfl,?_⟩) hHeld ?_
         rotate_left 1
         ·(intro w hSw;obtain⟨⟨c1,c2,c3⟩,hx⟩:=HCC.out _ hSw;have f1:=HF.out.1;have f2:=HF.out.2;rw[f1] at c1;rw[f2] at c2;clear f1 f2;go_simp;try with_reducible rfl)
         try simp only[Act.put,zzA,zzB,zzC,zzD,zzE,zzF]
         refine wpAnyH_take (i:=6) (v:=?_) rfl (by kernel_rfl) (by kernel_rfl) (by kernel_rfl) (fun _ _ _ h=>h) (Or.inl ⟨by rfl,?_⟩) hHeld ?_
         rotate_left 1
         ·(intro w hSw;obtain⟨⟨c1,c2,c3⟩,hx⟩:=HCC.out _ hSw;have f1:=HF.out.1;have f2:=HF.out.2;rw[f1] at c1;rw[f2] at c2;clear f1 f2;go_simp;try with_reducible rfl)
         try simp only[Act.put,zzA,zzB,zzC,zzD,zzE,zzF]
         refine wpAnyH_take (i:=7) (v:=?_) rfl (by kernel_rfl) (by kernel_rfl) (by kernel_rfl) (fun _ _ _ h=>h) (Or.inl ⟨by rfl,?_⟩) hHeld ?_
         rotate_left 1
         ·(intro w hSw;obtain⟨⟨c1,c2,c3⟩,hx⟩:=HCC.out _ hSw;have f1:=HF.out.1;have f2:=HF.out.2;rw[f1] at c1;rw[f2] at c2;clear f1 f2;go_simp;try with_reducible rfl)
         try simp only[Act.put,zzA,zzB,zzC,zzD,zzE,zzF]
         refine wpAnyH_take (i:=8) (v:=?_) rfl (by kernel_rfl) (by kernel_rfl) (by kernel_rfl) (fun _ _ _ h=>h) (Or.inl ⟨by rfl,?_⟩) hHeld ?_
         rotate_left 1
         ·(intro w hSw;obtain⟨⟨c1,c2,c3⟩,hx⟩:=HCC.out _ hSw;have f1:=HF.out.1;have f2:=HF.out.2;rw[f1] at c1;rw[f2] at c2;clear f1 f2;go_simp;try with_reducible rfl)
         try simp only[Act.put,zzA,zzB,zzC,zzD,zzE,zzF]
         refine wpAnyH_take (i:=9) (v:=?_) rfl (by kernel_rfl) (by kernel_rfl) (by kernel_rfl) (fun _ _ _ h=>h) (Or.inl ⟨by rfl,?_⟩) hHeld ?_
         rotate_left 1
         ·(intro w hSw;obtain⟨⟨c1,c2,c3⟩,hx⟩:=HCC.out _ hSw;have f1:=HF.out.1;have f2:=HF.out.2;rw[f1] at c1;rw[f2] at c2;clear f1 f2;go_simp;try with_reducible rfl)
         try simp only[Act.put,zzA,zzB,zzC,zzD,zzE,zzF]
         refine wpAnyH_take (i:=10) (v:=?_) rfl (by kernel_rfl) (by kernel_rfl) (by kernel_rfl) (fun _ _ _ h=>h) (Or.inl ⟨by rfl,?_⟩) hHeld ?_
         rotate_left 1
         ·(intro w hSw;obtain⟨⟨c1,c2,c3⟩,hx⟩:=HCC.out w hSw;go_simp;try with_reducible rfl)
         try simp only[Act.put,zzA,zzB,zzC,zzD,zzE,zzF]
         refine wpAnyH_take (i:=11) (v:=?_) rfl (by kernel_rfl) (by kernel_rfl) (by kernel_rfl) (fun _ _ _ h=>h) (Or.inl ⟨by rfl,?_⟩) hHeld ?_
         rotate_left 1
         ·(intro w hSw;obtain⟨⟨c1,c2,c3⟩,hx⟩:=HCC.out w hSw;go_simp;try with_reducible rfl)
         try simp only[Act.put,zzA,zzB,zzC,zzD,zzE,zzF]
         refine wpAnyH_take (i:=12) (v:=?_) rfl (by kernel_rfl) (by kernel_rfl) (by kernel_rfl) (fun _ _ _ h=>h) (Or.inl ⟨by rfl,?_⟩) hHeld ?_
         rotate_left 1
         ·(intro w hSw;obtain⟨⟨c1,c2,c3⟩,hx⟩:=HCC.out w hSw;go_simp;try with_reducible rfl)
         try simp only[Act.put,zzA,zzB,zzC,zzD,zzE,zzF]
         refine wpAnyH_take (i:=13) (v:=?_) rfl (by kernel_rfl) (by kernel_rfl) (by kernel_rfl) (fun _ _ _ h=>h) (Or.inl ⟨by rfl,?_⟩) hHeld ?_
         rotate_left 1
         ·(intro w hSw;obtain⟨⟨c1,c2,c3⟩,hx⟩:=HCC.out w hSw;go_simp;try with_reducible rfl)
         try simp only[Act.put,zzA,zzB,zzC,zzD,zzE,zzF]
         refine wpAnyH_take (i:=14) (v:=?_) rfl (by kernel_rfl) (by kernel_rfl) (by kernel_rfl) (fun _ _ _ h=>h) (Or.inl ⟨by rfl,?_⟩) hHeld ?_
         rotate_left 1
         ·(intro w hSw;obtain⟨⟨c1,c2,c3⟩,hx⟩:=HCC.out w hSw;go_simp;try with_reducible rfl)
         try simp only[Act.put,zzA,zzB,zzC,zzD,zzE,zzF]
         refine wpAnyH_ready (rs:=[15]) (by kernel_rfl) (by simp) (AllReadyH.cons rfl (fun K hK=>?_) AllReadyH.nil)
         have hgc:=hHeld
         clear hHeld
         go_simp
         with_reducible refine(KA.out _).mono ?_
         rintro e w3 ⟨rfl,hg3⟩
         have HG3:Hid (G wr w3):=((G.refl wr).drew).trans hg3
         clear hg3 hgc
         refine hK.out _ _ (HGW.out.trans HG3.out) (fun hHeld=>?_)
         clear hK K
         try simp only[Act.put,zzA,zzB,zzC,zzD,zzE,zzF]
         refine wpAnyH_take (i:=16) (v:=?_) rfl (by kernel_rfl) (by kernel_rfl) (by kernel_rfl) (fun _ _ _ h=>h) (Or.inl ⟨by rfl,?_⟩) hHeld ?_
         rotate_left 1
         ·(intro w hSw;(try dsimp only at hSw);go_simp;try with_reducible rfl)
         try simp only[Act.put,zzA,zzB,zzC,zzD,zzE,zzF]
         refine wpAnyH_take (i:=17) (v:=?_) rfl (by kernel_rfl) (by kernel_rfl) (by kernel_rfl) (fun _ _ _ h=>h) (Or.inl ⟨by rfl,?_⟩) hHeld ?_
         rotate_left 1
         ·(intro w hSw;(try dsimp only at hSw);go_simp;try with_reducible rfl)
         try simp only[Act.put,zzA,zzB,zzC,zzD,zzE,zzF]
         refine wpAnyH_done (by kernel_rfl) ?_ _
         refine NoPanic.normal ?_
         obtain⟨v8,w8,r1,r2,r3⟩:=app_res2 w3 w1.heap.size _ _ x (own_G HOW.out HG3.out) HLEN.out (HGW.out.trans HG3.out).size
         have HA8:=hide r1
         have HR8:=hide r2
         have HG8:Hid (G w1 w8):=grown_G ((HGW.out.trans HG3.out).alloc _) r3 (fun k hk=>(World.ownsRow.lt (own_G HOW.out HG3.out) k hk).1)
         clear r1 r2 r3
         obtain⟨⟨c1,c2,c3⟩,hx⟩:=HCC.out _ (HGW.out.trans HG3.out)
         go_wp2_with (first|(at_builtin;refine wpList_append_run rfl _ _ 82 rfl _ _ rfl rfl HA8.out ?_;refine Hid.out ?_)|fail)
         unfold Hid
         clear c1 c2 c3 hx
         obtain⟨⟨c1,c2,c3⟩,hx⟩:=HCC.out _ HG8.out
         have f1:=HF.out.1
         have f2:=HF.out.2
         rw[f1] at c1
         rw[f2] at c2
         clear f1 f2
         go_wp2_with fail
         go_quiet (fail)
         generalize hV:World.drewN w8 _=V2
         have HV2:Hid (G w8 V2):=by rw[←hV];exact(G.refl w8).drewN _
         clear hV c1 c2 c3 hx
         obtain⟨v9,w9,r1,r2,r3⟩:=app_res2 V2 w1.heap.size _ _ a (own_G HR8.out HV2.out) HLEN2.out (HG8.out.trans HV2.out).size
         have HA9:=hide r1
         have HR9:=hide r2
         have HG9:Hid (G w1 w9):=grown_G ((HG8.out.trans HV2.out).alloc _) r3 (fun k hk=>(World.ownsRow.lt (own_G HR8.out HV2.out) k hk).1)
         clear r1 r2 r3
         obtain⟨⟨c1,c2,c3⟩,hx⟩:=HCC.out _ (HG8.out.trans HV2.out)
         go_wp2_with (first|(at_builtin;refine wpList_append_run rfl _ _ 82 rfl _ _ rfl rfl HA9.out ?_)|fail)
         exact⟨⟨j+1,HLT.out,by rw[HST.out.1],by rw[HWJ.out];exact rl1 j,by rw[HST.out.2];exact HR9.out,HG9.out⟩,by rw[HWJ.out];exact ms_end HLT.out⟩
        ·have d3:¬a.lb.toList=x.lb.toList:=fun q=>f2 (toList_inj q)
         have d4:(a.lb.toList==x.lb.toList)=false:=by simp[d3]
         clear hne
         have HF:=hide f1
         clear f1 f2
         go_wp2_with fail
         refine wp_region_noPanic ?_
         refine wp_region_held_drew (S:=(fun U=>G w1 U)) (by kernel_rfl) (HGW.out.drew) (fun hHeld=>?_)
         refine wpAnyH_take (i:=0) (v:=?_) rfl (by kernel_rfl) (by kernel_rfl) (by kernel_rfl) (fun _ _ _ h=>h) (Or.inl ⟨by rfl,?_⟩) hHeld ?_
         rotate_left 1
         ·(intro w hSw;obtain⟨⟨c1,c2,c3⟩,hx⟩:=HCC.out _ hSw;have f1:=HF.out;rw[f1] at c1;clear f1;go_simp;try with_reducible rfl)
         try simp only[Act.put,zzA,zzB,zzD,zzE,zzF]
         refine wpAnyH_take (i:=1) (v:=?_) rfl (by kernel_rfl) (by kernel_rfl) (by kernel_rfl) (fun _ _ _ h=>h) (Or.inl ⟨by rfl,?_⟩) hHeld ?_
         rotate_left 1
         ·(intro w hSw;obtain⟨⟨c1,c2,c3⟩,hx⟩:=HCC.out _ hSw;have f1:=HF.out;rw[f1] at c1;clear f1;go_simp;try with_reducible rfl)
         try simp only[Act.put,zzA,zzB,zzC,zzD,zzE,zzF]
         refine wpAnyH_take (i:=2) (v:=?_) rfl (by kernel_rfl) (by kernel_rfl) (by kernel_rfl) (fun _ _ _ h=>h) (Or.inl ⟨by rfl,?_⟩) hHeld ?_
         rotate_left 1
         ·(intro w hSw;obtain⟨⟨c1,c2,c3⟩,hx⟩:=HCC.out _ hSw;have f1:=HF.out;rw[f1] at c1;clear f1;go_simp;try with_reducible rfl)
         try simp only[Act.put,zzA,zzB,zzC,zzD,zzE,zzF]
         refine wpAnyH_take (i:=3) (v:=?_) rfl (by kernel_rfl) (by kernel_rfl) (by kernel_rfl) (fun _ _ _ h=>h) (Or.inl ⟨by rfl,?_⟩) hHeld ?_
         rotate_left 1
         ·(intro w hSw;obtain⟨⟨c1,c2,c3⟩,hx⟩:=HCC.out _ hSw;have f1:=HF.out;rw[f1] at c1;clear f1;go_simp;try with_reducible rfl)
         try simp only[Act.put,zzA,zzB,zzC,zzD,zzE,zzF]
         refine wpAnyH_take (i:=4) (v:=?_) rfl (by kernel_rfl) (by kernel_rfl) (by kernel_rfl) (fun _ _ _ h=>h) (Or.inl ⟨by rfl,?_⟩) hHeld ?_
         rotate_left 1
         ·(intro w hSw;obtain⟨⟨c1,c2,c3⟩,hx⟩:=HCC.out _ hSw;have f1:=HF.out;rw[f1] at c1;clear f1;go_simp;try with_reducible rfl)
         try simp only[Act.put,zzA,zzB,zzC,zzD,zzE,zzF]
         refine wpAnyH_take (i:=5) (v:=?_) rfl (by kernel_rfl) (by kernel_rfl) (by kernel_rfl) (fun _ _ _ h=>h) (Or.inl ⟨by rfl,?_⟩) hHeld ?_
         rotate_left 1
         ·(intro w hSw;obtain⟨⟨c1,c2,c3⟩,hx⟩:=HCC.out _ hSw;have f1:=HF.out;rw[f1] at c1;clear f1;go_simp;try with_reducible rfl)
         try simp only[Act.put,zzA,zzB,zzC,zzD,zzE,zzF]
         refine wpAnyH_take (i:=6) (v:=?_) rfl (by kernel_rfl) (by kernel_rfl) (by kernel_rfl) (fun _ _ _ h=>h) (Or.inl ⟨by rfl,?_⟩) hHeld ?_
         rotate_left 1
         ·(intro w hSw;obtain⟨⟨c1,c2,c3⟩,hx⟩:=HCC.out _ hSw;have f1:=HF.out;rw[f1] at c1;clear f1;go_simp;try with_reducible rfl)
         try simp only[Act.put,zzA,zzB,zzC,zzD,zzE,zzF]
         refine wpAnyH_take (i:=7) (v:=?_) rfl (by kernel_rfl) (by kernel_rfl) (by kernel_rfl) (fun _ _ _ h=>h) (Or.inl ⟨by rfl,?_⟩) hHeld ?_
         rotate_left 1
         ·(intro w hSw;obtain⟨⟨c1,c2,c3⟩,hx⟩:=HCC.out _ hSw;have f1:=HF.out;rw[f1] at c1;clear f1;go_simp;try with_reducible rfl)
         try simp only[Act.put,zzA,zzB,zzC,zzD,zzE,zzF]
         refine wpAnyH_take (i:=8) (v:=?_) rfl (by kernel_rfl) (by kernel_rfl) (by kernel_rfl) (fun _ _ _ h=>h) (Or.inl ⟨by rfl,?_⟩) hHeld ?_
         rotate_left 1
         ·(intro w hSw;obtain⟨⟨c1,c2,c3⟩,hx⟩:=HCC.out _ hSw;have f1:=HF.out;rw[f1] at c1;clear f1;go_simp;try with_reducible rfl)
         try simp only[Act.put,zzA,zzB,zzC,zzD,zzE,zzF]
         refine wpAnyH_take (i:=9) (v:=?_) rfl (by kernel_rfl) (by kernel_rfl) (by kernel_rfl) (fun _ _ _ h=>h) (Or.inl ⟨by rfl,?_⟩) hHeld ?_
         rotate_left 1
         ·(intro w hSw;obtain⟨⟨c1,c2,c3⟩,hx⟩:=HCC.out _ hSw;have f1:=HF.out;rw[f1] at c1;clear f1;go_simp;try with_reducible rfl)
         try simp only[Act.put,zzA,zzB,zzC,zzD,zzE,zzF]
         refine wpAnyH_take (i:=10) (v:=?_) rfl (by kernel_rfl) (by kernel_rfl) (by kernel_rfl) (fun _ _ _ h=>h) (Or.inl ⟨by rfl,?_⟩) hHeld ?_
         rotate_left 1
         ·(intro w hSw;obtain⟨⟨c1,c2,c3⟩,hx⟩:=HCC.out w hSw;go_simp;try with_reducible rfl)
         try simp only[Act.put,zzA,zzB,zzC,zzD,zzE,zzF]
         refine wpAnyH_take (i:=11) (v:=?_) rfl (by kernel_rfl) (by kernel_rfl) (by kernel_rfl) (fun _ _ _ h=>h) (Or.inl ⟨by rfl,?_⟩) hHeld ?_
         rotate_left 1
         ·(intro w hSw;obtain⟨⟨c1,c2,c3⟩,hx⟩:=HCC.out w hSw;go_simp;try with_reducible rfl)
         try simp only[Act.put,zzA,zzB,zzC,zzD,zzE,zzF]
         refine wpAnyH_take (i:=12) (v:=?_) rfl (by kernel_rfl) (by kernel_rfl) (by kernel_rfl) (fun _ _ _ h=>h) (Or.inl ⟨by rfl,?_⟩) hHeld ?_
         rotate_left 1
         ·(intro w hSw;obtain⟨⟨c1,c2,c3⟩,hx⟩:=HCC.out w hSw;go_simp;try with_reducible rfl)
         try simp only[Act.put,zzA,zzB,zzC,zzD,zzE,zzF]
         refine wpAnyH_take (i:=13) (v:=?_) rfl (by kernel_rfl) (by kernel_rfl) (by kernel_rfl) (fun _ _ _ h=>h) (Or.inl ⟨by rfl,?_⟩) hHeld ?_
         rotate_left 1
         ·(intro w hSw;obtain⟨⟨c1,c2,c3⟩,hx⟩:=HCC.out w hSw;go_simp;try with_reducible rfl)
         try simp only[Act.put,zzA,zzB,zzC,zzD,zzE,zzF]
         refine wpAnyH_take (i:=14) (v:=?_) rfl (by kernel_rfl) (by kernel_rfl) (by kernel_rfl) (fun _ _ _ h=>h) (Or.inl ⟨by rfl,?_⟩) hHeld ?_
         rotate_left 1
         ·(intro w hSw;obtain⟨⟨c1,c2,c3⟩,hx⟩:=HCC.out w hSw;go_simp;try with_reducible rfl)
         try simp only[Act.put,zzA,zzB,zzC,zzD,zzE,zzF]
         refine wpAnyH_ready (rs:=[15]) (by kernel_rfl) (by simp) (AllReadyH.cons rfl (fun K hK=>?_) AllReadyH.nil)
         have hgc:=hHeld
         clear hHeld
         go_simp
         with_reducible refine(KA.out _).mono ?_
         rintro e w3 ⟨rfl,hg3⟩
         have HG3:Hid (G wr w3):=((G.refl wr).drew).trans hg3
         clear hg3 hgc
         refine hK.out _ _ (HGW.out.trans HG3.out) (fun hHeld=>?_)
         clear hK K
         try simp only[Act.put,zzA,zzB,zzC,zzD,zzE,zzF]
         refine wpAnyH_take (i:=16) (v:=?_) rfl (by kernel_rfl) (by kernel_rfl) (by kernel_rfl) (fun _ _ _ h=>h) (Or.inl ⟨by rfl,?_⟩) hHeld ?_
         rotate_left 1
         ·(intro w hSw;(try dsimp only at hSw);go_simp;try with_reducible rfl)
         try simp only[Act.put,zzA,zzB,zzC,zzD,zzE,zzF]
         refine wpAnyH_take (i:=17) (v:=?_) rfl (by kernel_rfl) (by kernel_rfl) (by kernel_rfl) (fun _ _ _ h=>h) (Or.inl ⟨by rfl,?_⟩) hHeld ?_
         rotate_left 1
         ·(intro w hSw;(try dsimp only at hSw);go_simp;try with_reducible rfl)
         try simp only[Act.put,zzA,zzB,zzC,zzD,zzE,zzF]
         refine wpAnyH_done (by kernel_rfl) ?_ _
         refine NoPanic.normal ?_
         obtain⟨v8,w8,r1,r2,r3⟩:=app_res2 w3 w1.heap.size _ _ x (own_G HOW.out HG3.out) HLEN.out (HGW.out.trans HG3.out).size
         have HA8:=hide r1
         have HR8:=hide r2
         have HG8:Hid (G w1 w8):=grown_G ((HGW.out.trans HG3.out).alloc _) r3 (fun k hk=>(World.ownsRow.lt (own_G HOW.out HG3.out) k hk).1)
         clear r1 r2 r3
         obtain⟨⟨c1,c2,c3⟩,hx⟩:=HCC.out _ (HGW.out.trans HG3.out)
         go_wp2_with (first|(at_builtin;refine wpList_append_run rfl _ _ 82 rfl _ _ rfl rfl HA8.out ?_;refine Hid.out ?_)|fail)
         unfold Hid
         clear c1 c2 c3 hx
         obtain⟨⟨c1,c2,c3⟩,hx⟩:=HCC.out _ HG8.out
         have f1:=HF.out
         rw[f1] at c1
         clear f1
         go_wp2_with fail
         go_quiet (fail)
         generalize hV:World.drewN w8 _=V2
         have HV2:Hid (G w8 V2):=by rw[←hV];exact(G.refl w8).drewN _
         clear hV c1 c2 c3 hx
         obtain⟨v9,w9,r1,r2,r3⟩:=app_res2 V2 w1.heap.size _ _ a (own_G HR8.out HV2.out) HLEN2.out (HG8.out.trans HV2.out).size
         have HA9:=hide r1
         have HR9:=hide r2
         have HG9:Hid (G w1 w9):=grown_G ((HG8.out.trans HV2.out).alloc _) r3 (fun k hk=>(World.ownsRow.lt (own_G HR8.out HV2.out) k hk).1)
         clear r1 r2 r3
         obtain⟨⟨c1,c2,c3⟩,hx⟩:=HCC.out _ (HG8.out.trans HV2.out)
         go_wp2_with (first|(at_builtin;refine wpList_append_run rfl _ _ 82 rfl _ _ rfl rfl HA9.out ?_)|fail)
         exact⟨⟨j+1,HLT.out,by rw[HST.out.1],by rw[HWJ.out];exact rl1 j,by rw[HST.out.2];exact HR9.out,HG9.out⟩,by rw[HWJ.out];exact ms_end HLT.out⟩
       ·have d3:decide (a.lv=x.lv)=false:=by simp[f1]
        have d4:(a.lv==x.lv)=false:=by simp[f1]
        clear hne
        clear f1
        go_wp2_with fail
        refine wp_region_noPanic ?_
        refine wp_region_held_drew (S:=(fun U=>G w1 U)) (by kernel_rfl) (HGW.out.drew) (fun hHeld=>?_)
        refine wpAnyH_take (i:=0) (v:=?_) rfl (by kernel_rfl) (by kernel_rfl) (by kernel_rfl) (fun _ _ _ h=>h) (Or.inl ⟨by rfl,?_⟩) hHeld ?_
        rotate_left 1
        ·(intro w hSw;obtain⟨⟨c1,c2,c3⟩,hx⟩:=HCC.out _ hSw;go_simp;try with_reducible rfl)
        try simp only[Act.put,zzA,zzB,zzD,zzE,zzF]
        refine wpAnyH_take (i:=1) (v:=?_) rfl (by kernel_rfl) (by kernel_rfl) (by kernel_rfl) (fun _ _ _ h=>h) (Or.inl ⟨by rfl,?_⟩) hHeld ?_
        rotate_left 1
        ·(intro w hSw;obtain⟨⟨c1,c2,c3⟩,hx⟩:=HCC.out _ hSw;go_simp;try with_reducible rfl)
        try simp only[Act.put,zzA,zzB,zzC,zzD,zzE,zzF]
        refine wpAnyH_take (i:=2) (v:=?_) rfl (by kernel_rfl) (by kernel_rfl) (by kernel_rfl) (fun _ _ _ h=>h) (Or.inl ⟨by rfl,?_⟩) hHeld ?_
        rotate_left 1
        ·(intro w hSw;obtain⟨⟨c1,c2,c3⟩,hx⟩:=HCC.out _ hSw;go_simp;try with_reducible rfl)
        try simp only[Act.put,zzA,zzB,zzC,zzD,zzE,zzF]
        refine wpAnyH_take (i:=3) (v:=?_) rfl (by kernel_rfl) (by kernel_rfl) (by kernel_rfl) (fun _ _ _ h=>h) (Or.inl ⟨by rfl,?_⟩) hHeld ?_
        rotate_left 1
        ·(intro w hSw;obtain⟨⟨c1,c2,c3⟩,hx⟩:=HCC.out _ hSw;go_simp;try with_reducible rfl)
        try simp only[Act.put,zzA,zzB,zzC,zzD,zzE,zzF]
        refine wpAnyH_take (i:=4) (v:=?_) rfl (by kernel_rfl) (by kernel_rfl) (by kernel_rfl) (fun _ _ _ h=>h) (Or.inl ⟨by rfl,?_⟩) hHeld ?_
        rotate_left 1
        ·(intro w hSw;obtain⟨⟨c1,c2,c3⟩,hx⟩:=HCC.out _ hSw;go_simp;try with_reducible rfl)
        try simp only[Act.put,zzA,zzB,zzC,zzD,zzE,zzF]
        refine wpAnyH_take (i:=5) (v:=?_) rfl (by kernel_rfl) (by kernel_rfl) (by kernel_rfl) (fun _ _ _ h=>h) (Or.inl ⟨by rfl,?_⟩) hHeld ?_
        rotate_left 1
        ·(intro w hSw;obtain⟨⟨c1,c2,c3⟩,hx⟩:=HCC.out _ hSw;go_simp;try with_reducible rfl)
        try simp only[Act.put,zzA,zzB,zzC,zzD,zzE,zzF]
        refine wpAnyH_take (i:=6) (v:=?_) rfl (by kernel_rfl) (by kernel_rfl) (by kernel_rfl) (fun _ _ _ h=>h) (Or.inl ⟨by rfl,?_⟩) hHeld ?_
        rotate_left 1
        ·(intro w hSw;obtain⟨⟨c1,c2,c3⟩,hx⟩:=HCC.out _ hSw;go_simp;try with_reducible rfl)
        try simp only[Act.put,zzA,zzB,zzC,zzD,zzE,zzF]
        refine wpAnyH_take (i:=7) (v:=?_) rfl (by kernel_rfl) (by kernel_rfl) (by kernel_rfl) (fun _ _ _ h=>h) (Or.inl ⟨by rfl,?_⟩) hHeld ?_
        rotate_left 1
        ·(intro w hSw;obtain⟨⟨c1,c2,c3⟩,hx⟩:=HCC.out _ hSw;go_simp;try with_reducible rfl)
        try simp only[Act.put,zzA,zzB,zzC,zzD,zzE,zzF]
        refine wpAnyH_take (i:=8) (v:=?_) rfl (by kernel_rfl) (by kernel_rfl) (by kernel_rfl) (fun _ _ _ h=>h) (Or.inl ⟨by rfl,?_⟩) hHeld ?_
        rotate_left 1
        ·(intro w hSw;obtain⟨⟨c1,c2,c3⟩,hx⟩:=HCC.out _ hSw;go_simp;try with_reducible rfl)
        try simp only[Act.put,zzA,zzB,zzC,zzD,zzE,zzF]
        refine wpAnyH_take (i:=9) (v:=?_) rfl (by kernel_rfl) (by kernel_rfl) (by kernel_rfl) (fun _ _ _ h=>h) (Or.inl ⟨by rfl,?_⟩) hHeld ?_
        rotate_left 1
        ·(intro w hSw;obtain⟨⟨c1,c2,c3⟩,hx⟩:=HCC.out _ hSw;go_simp;try with_reducible rfl)
        try simp only[Act.put,zzA,zzB,zzC,zzD,zzE,zzF]
        refine wpAnyH_take (i:=10) (v:=?_) rfl (by kernel_rfl) (by kernel_rfl) (by kernel_rfl) (fun _ _ _ h=>h) (Or.inl ⟨by rfl,?_⟩) hHeld ?_
        rotate_left 1
        ·(intro w hSw;obtain⟨⟨c1,c2,c3⟩,hx⟩:=HCC.out w hSw;go_simp;try with_reducible rfl)
        try simp only[Act.put,zzA,zzB,zzC,zzD,zzE,zzF]
        refine wpAnyH_take (i:=11) (v:=?_) rfl (by kernel_rfl) (by kernel_rfl) (by kernel_rfl) (fun _ _ _ h=>h) (Or.inl ⟨by rfl,?_⟩) hHeld ?_
        rotate_left 1
        ·(intro w hSw;obtain⟨⟨c1,c2,c3⟩,hx⟩:=HCC.out w hSw;go_simp;try with_reducible rfl)
        try simp only[Act.put,zzA,zzB,zzC,zzD,zzE,zzF]
        refine wpAnyH_take (i:=12) (v:=?_) rfl (by kernel_rfl) (by kernel_rfl) (by kernel_rfl) (fun _ _ _ h=>h) (Or.inl ⟨by rfl,?_⟩) hHeld ?_
        rotate_left 1
        ·(intro w hSw;obtain⟨⟨c1,c2,c3⟩,hx⟩:=HCC.out w hSw;go_simp;try with_reducible rfl)
        try simp only[Act.put,zzA,zzB,zzC,zzD,zzE,zzF]
        refine wpAnyH_take (i:=13) (v:=?_) rfl (by kernel_rfl) (by kernel_rfl) (by kernel_rfl) (fun _ _ _ h=>h) (Or.inl ⟨by rfl,?_⟩) hHeld ?_
        rotate_left 1
        ·(intro w hSw;obtain⟨⟨c1,c2,c3⟩,hx⟩:=HCC.out w hSw;go_simp;try with_reducible rfl)
        try simp only[Act.put,zzA,zzB,zzC,zzD,zzE,zzF]
        refine wpAnyH_take (i:=14) (v:=?_) rfl (by kernel_rfl) (by kernel_rfl) (by kernel_rfl) (fun _ _ _ h=>h) (Or.inl ⟨by rfl,?_⟩) hHeld ?_
        rotate_left 1
        ·(intro w hSw;obtain⟨⟨c1,c2,c3⟩,hx⟩:=HCC.out w hSw;go_simp;try with_reducible rfl)
        try simp only[Act.put,zzA,zzB,zzC,zzD,zzE,zzF]
        refine wpAnyH_ready (rs:=[15]) (by kernel_rfl) (by simp) (AllReadyH.cons rfl (fun K hK=>?_) AllReadyH.nil)
        have hgc:=hHeld
        clear hHeld
        go_simp
        with_reducible refine(KA.out _).mono ?_
        rintro e w3 ⟨rfl,hg3⟩
        have HG3:Hid (G wr w3):=((G.refl wr).drew).trans hg3
        clear hg3 hgc
        refine hK.out _ _ (HGW.out.trans HG3.out) (fun hHeld=>?_)
        clear hK K
        try simp only[Act.put,zzA,zzB,zzC,zzD,zzE,zzF]
        refine wpAnyH_take (i:=16) (v:=?_) rfl (by kernel_rfl) (by kernel_rfl) (by kernel_rfl) (fun _ _ _ h=>h) (Or.inl ⟨by rfl,?_⟩) hHeld ?_
        rotate_left 1
        ·(intro w hSw;(try dsimp only at hSw);go_simp;try with_reducible rfl)
        try simp only[Act.put,zzA,zzB,zzC,zzD,zzE,zzF]
        refine wpAnyH_take (i:=17) (v:=?_) rfl (by kernel_rfl) (by kernel_rfl) (by kernel_rfl) (fun _ _ _ h=>h) (Or.inl ⟨by rfl,?_⟩) hHeld ?_
        rotate_left 1
        ·(intro w hSw;(try dsimp only at hSw);go_simp;try with_reducible rfl)
        try simp only[Act.put,zzA,zzB,zzC,zzD,zzE,zzF]
        refine wpAnyH_done (by kernel_rfl) ?_ _
        refine NoPanic.normal ?_
        obtain⟨v8,w8,r1,r2,r3⟩:=app_res2 w3 w1.heap.size _ _ x (own_G HOW.out HG3.out) HLEN.out (HGW.out.trans HG3.out).size
        have HA8:=hide r1
        have HR8:=hide r2
        have HG8:Hid (G w1 w8):=grown_G ((HGW.out.trans HG3.out).alloc _) r3 (fun k hk=>(World.ownsRow.lt (own_G HOW.out HG3.out) k hk).1)
        clear r1 r2 r3
        obtain⟨⟨c1,c2,c3⟩,hx⟩:=HCC.out _ (HGW.out.trans HG3.out)
        go_wp2_with (first|(at_builtin;refine wpList_append_run rfl _ _ 82 rfl _ _ rfl rfl HA8.out ?_;refine Hid.out ?_)|fail)
        unfold Hid
        clear c1 c2 c3 hx
        obtain⟨⟨c1,c2,c3⟩,hx⟩:=HCC.out _ HG8.out
        go_wp2_with fail
        go_quiet (fail)
        generalize hV:World.drewN w8 _=V2
        have HV2:Hid (G w8 V2):=by rw[←hV];exact(G.refl w8).drewN _
        clear hV c1 c2 c3 hx
        obtain⟨v9,w9,r1,r2,r3⟩:=app_res2 V2 w1.heap.size _ _ a (own_G HR8.out HV2.out) HLEN2.out (HG8.out.trans HV2.out).size
        have HA9:=hide r1
        have HR9:=hide r2
        have HG9:Hid (G w1 w9):=grown_G ((HG8.out.trans HV2.out).alloc _) r3 (fun k hk=>(World.ownsRow.lt (own_G HR8.out HV2.out) k hk).1)
        clear r1 r2 r3
        obtain⟨⟨c1,c2,c3⟩,hx⟩:=HCC.out _ (HG8.out.trans HV2.out)
        go_wp2_with (first|(at_builtin;refine wpList_append_run rfl _ _ 82 rfl _ _ rfl rfl HA9.out ?_)|fail)
        exact⟨⟨j+1,HLT.out,by rw[HST.out.1],by rw[HWJ.out];exact rl1 j,by rw[HST.out.2];exact HR9.out,HG9.out⟩,by rw[HWJ.out];exact ms_end HLT.out⟩
    ·have hne:j=rs.length:=by omega
     subst hne
     have hjI:¬((rs.length:Int)<(rs.length:Int)):=by omega
     rw[List.take_length] at how hol⊢
     have hfin:=outR_fin (x:=x) rs
     have HLEN:Hid ((outR x rs).length<4100000000000):=by show _<_;omega
     have HGW:=hide hgw;have HOW:=hide how
     clear hj hlt hll hgw how hol
     cases hd:dnR x rs with
     | true=>
      rw[hd,if_pos rfl] at hfin
      have HF:=hide hfin
      clear hd hfin
      go_wp2_with fail
      exact⟨⟨n+1,HLTN.out,by rw[HWN.out];exact rl1 n,by rw[HSTN.out,HF.out];exact own_lo HOW.out HGW0.out.size,HGW0.out.trans HGW.out⟩,by rw[HWN.out];exact ms_end HLTN.out⟩
     | false=>
      rw[hd,if_neg (by simp)] at hfin
      have HF:=hide hfin
      clear hd hfin
      obtain⟨v8,w8,r1,r2,r3⟩:=app_res2 wr w1.heap.size _ _ x HOW.out HLEN.out HGW.out.size
      have HA8:=hide r1
      have HR8:=hide r2
      have HG8:Hid (G w1 w8):=grown_G (HGW.out.alloc _) r3 (fun k hk=>(World.ownsRow.lt HOW.out k hk).1)
      have hx:=(HB0.out.1.G HGW.out).cell
      clear r1 r2 r3
      go_wp2_with (first|(at_builtin;refine wpList_append_run rfl _ _ 82 rfl _ _ rfl rfl HA8.out ?_)|fail)
      exact⟨⟨n+1,HLTN.out,by rw[HWN.out];exact rl1 n,by rw[HSTN.out,HF.out];exact own_lo HR8.out HGW0.out.size,HGW0.out.trans HG8.out⟩,by rw[HWN.out];exact ms_end HLTN.out⟩
  ·have hne:n=R.aq.length:=by omega
   subst hne
   have hnI:¬((R.aq.length:Int)<(R.aq.length:Int)):=by omega
   rw[List.take_length] at how
   obtain⟨-,hrl,-⟩:=resP_all R.aq
   obtain⟨rs,hrs⟩:∃rs,rs=resP R.aq:=⟨_,rfl⟩
   rw[←hrs] at how hrl HJ
   have HRS:=hide hrs
   have HRL:Hid (rs.length<400000000000):=by show _<_;omega
   obtain⟨sa,sc,rfl⟩:=row_form how
   have HS0:Hid (GS w wr b D R.tx R.hd R.aq [] (.slice none 0 0) rs (.slice sa rs.length sc) D):=⟨⟨_,_,_,_,hR⟩,⟨rfl,.inl ⟨rfl,rfl⟩⟩,(fun k hk=>by cases hk),how,fun k hk hd=>by
    have h1:=(World.ownsRow.lt how k hk).1
    have h2:=H.out.dl k hd
    omega,hgw.chg,fun k hk=>.inl hk⟩
   clear hn hlt hll hgw hR how hrl hrs HLL
   go_wp2_with fail
   clear hbc hnI
   go_loopw [9,10] (fun gv iv wr=>∃(i:Nat) (hd aq:List Lk) (got:List Int) (D':Nat→Prop),i≤rs.length∧iv=I (i:Int)∧J i 0 hd aq got∧GS w wr b D R.tx hd aq got gv rs (.slice sa rs.length sc) D') (fun _ iv _=>rs.length-(RowKit.intOf iv).toNat)
   case atStart=>exact⟨0,R.hd,R.aq,[],D,Nat.zero_le _,rfl,H0.out,HS0.out⟩
   case round=>
    clear HS0 H0 H
    obtain⟨i,hd,aq,got,D',hi,rfl,hj,hs⟩:=hrel
    have hll:=HRL.out
    by_cases hlt:i<rs.length
    ·obtain⟨x,hr⟩:∃a,rs[i]?=some a:=⟨_,List.getElem?_eq_getElem hlt⟩
     have hiI:(i:Int)<(rs.length:Int):=by omega
     have hi0:(0:Int)≤(i:Int):=by omega
     have hwi:wrap64 ((i:Int)+1)=(i:Int)+1:=by unfold wrap64;omega
     have HWI:=hide hwi;have HLTI:=hide hlt;have HR:=hide hr;have HJ0:=hide hj;have HS:=hide hs
     obtain⟨ga,hga,-⟩:=rc_cell3 hs.rw_ hr
     subst hga
     clear hi hlt hwi hll hj hs hr
     go_wp2_with fail
     generalize wr=w0 at HS⊢
     go_loopw [9,11] (fun gv nv wr=>∃(n:Nat) (hd aq:List Lk) (got:List Int) (D':Nat→Prop),n≤aq.length∧nv=I (n:Int)∧J i n hd aq got∧GS w wr b D R.tx hd aq got gv rs (.slice (some ⟨ga,0,none⟩) rs.length sc) D') (fun _ nv wr=>aLen wr b-(RowKit.intOf nv).toNat)
     case atStart=>exact⟨0,hd,aq,got,D',Nat.zero_le _,rfl,HJ0.out,HS.out⟩
     case round=>
      clear HJ0 HS hd aq got D'
      obtain⟨n,hd,aq,got,D',hn,rfl,hj,hs⟩:=hrel
      obtain⟨hb1,hb2,hb3⟩:=HJ.out.bd _ _ _ _ _ hj
      obtain⟨vt,vh,va,tv,hR⟩:=hs.rt
      obtain⟨qa,qcap,rfl⟩:=row_form hR.ra
      have hbc:=hR.blk.cell
      by_cases hln:n<aq.length
      ·obtain⟨⟨ex,a,ec,eu⟩,hq⟩:∃a,aq[n]?=some a:=⟨_,List.getElem?_eq_getElem hln⟩
       obtain⟨gq,hgq,kc⟩:=row_cell lk_len hR.ra hq
       subst hgq
       have k0:wr.cell? ⟨gq,n*6,none⟩=some (I ex):=kc 0 (by omega)
       have k1:wr.cell? ⟨gq,n*6+1,none⟩=some (I a.lv):=kc 1 (by omega)
       have k2:wr.cell? ⟨gq,n*6+2,none⟩=some (.string a.lb):=kc 2 (by omega)
       have k3:wr.cell? ⟨gq,n*6+3,none⟩=some (I a.id):=kc 3 (by omega)
       have k4:wr.cell? ⟨gq,n*6+4,none⟩=some (I ec):=kc 4 (by omega)
       have k5:wr.cell? ⟨gq,n*6+5,none⟩=some (.bool eu):=kc 5 (by omega)
       have hnI:(n:Int)<(aq.length:Int):=by omega
       have hn0:(0:Int)≤(n:Int):=by omega
       have hwn:wrap64 ((n:Int)+1)=(n:Int)+1:=by unfold wrap64;omega
       have HWN:=hide hwn;have HLN:=hide hln;have HQ:=hide hq;have HJN:=hide hj;have HS:=hide hs
       have HBX:Hid (Blk (wr.alloc (.cells #[I ex,I a.lv,.string a.lb,I a.id,I ec,.bool eu] 73)) wr.heap.size 73 [I ex,I a.lv,.string a.lb,I a.id,I ec,.bool eu]∧G wr (wr.alloc (.cells #[I ex,I a.lv,.string a.lb,I a.id,I ec,.bool eu] 73))):=⟨Blk.new wr _ 73,(G.refl wr).alloc _⟩
       have HBD:=hide (And.intro hb1 (And.intro hb2 hb3))
       clear hn hln hwn kc hj hs hb1 hb2 hb3 hq hR
       go_wp2_with fail
       clear hbc k0 k1 k2 k3 k4 k5
       obtain⟨w1,hw1⟩:∃w1,w1=wr.alloc (.cells #[I ex,I a.lv,.string a.lb,I a.id,I ec,.bool eu] 73):=⟨_,rfl⟩
       rw[←hw1] at HBX⊢
       obtain⟨qb,hqb⟩:∃qb,qb=wr.heap.size:=⟨_,rfl⟩
       have HQB:=hide hqb
       rw[←hqb] at HBX⊢
       clear hw1 hqb
       have HCC:Hid (∀U,G w1 U→(U.cell? ⟨ga,i*3,none⟩=some (I x.lv)∧U.cell? ⟨ga,i*3+1,none⟩=some (.string x.lb)∧U.cell? ⟨ga,i*3+2,none⟩=some (I x.id))∧U.cell? ⟨qb,1,none⟩=some (I a.lv)∧U.cell? ⟨qb,2,none⟩=some (.string a.lb)∧U.cell? ⟨qb,3,none⟩=some (I a.id)):=fun U hU=>by
        obtain⟨gb,hgb,hc⟩:=rc_cell3 (own_G HS.out.rw_ (HBX.out.2.trans hU)) HR.out
        have eg:ga=gb:=by simpa using hgb
        subst eg
        have hb:=(HBX.out.1.G hU).cell
        exact⟨hc,hb 1,hb 2,hb 3⟩
       by_cases hax:a=x
       ·subst hax
        obtain⟨⟨c4,c5,c6⟩,c1,c2,c3⟩:=HCC.out _ (G.refl _)
        go_quiet (fail)
        generalize hV:World.drewN w1 _=V
        have HV:Hid (G w1 V):=by rw[←hV];exact(G.refl w1).drewN _
        clear hV c1 c2 c3 c4 c5 c6
        have HSV:=hide (HS.out.G (HBX.out.2.trans HV.out))
        obtain⟨vt1,vh1,va1,tv1,hR1⟩:=HSV.out.rt
        have KI:=hide (inWay_r hR1 n _ HQ.out (show hd.length<400000000000∧aq.length<400000000000 from⟨HBD.out.1,HBD.out.2.1⟩))
        clear hR1
        by_cases hway:inwP ⟨R.tx,hd,aq⟩ n ⟨ex,a,ec,eu⟩=[]
        ·have HNX:=hide (HJ.out.give _ _ _ _ _ _ _ HJN.out HR.out HQ.out rfl hway)
         rw[hway] at KI
         clear hway
         go_wp2_with (first|(go_at_call 29;with_reducible refine(KI.out).mono ?_;rintro e w2 ⟨vw,rfl,o2,g2⟩;obtain⟨wya,wyc,rfl⟩:=row_form o2;refine Hid.out ?_)|fail)
         unfold Hid
         have HS2:=hide (HSV.out.G g2)
         have HB2:=hide (HBX.out.1.G (HV.out.trans g2))
         have HQ2:Hid (¬D' qb):=fun hd9=>by
          obtain⟨_,_,_,_,h9⟩:=HS.out.rt
          have h10:=h9.dl qb hd9
          have h11:=HQB.out
          omega
         obtain⟨vt2,vh2,va2,tv2,hR2⟩:=HS2.out.rt
         have KL:=hide (leave_r hR2 n (show n<aq.length from HLN.out) (show aq.length<400000000000 from HBD.out.2.1))
         clear o2 g2 hR2 KI
         go_wp2_with (first|(go_at_call 31;with_reducible refine(KL.out).mono ?_;rintro e w4 ⟨rfl,h4⟩;refine Hid.out ?_)|fail)
         unfold Hid
         obtain⟨D4,hs4,hc4,hd4⟩:=HS2.out.step h4
         have HB4:=hide (HB2.out.chg hc4 HQ2.out)
         have HQ4:Hid (¬D4 qb):=hd4 qb HB2.out.lt HQ2.out
         have HS4:=hide hs4
         obtain⟨vt4,vh4,va4,tv4,hR4⟩:=hs4.rt
         have KH:=hide (hold_r hR4 ex a ec (show hd.length<400000000000 from HBD.out.1))
         have hbx:=HB4.out.cell
         clear h4 hs4 hc4 hd4 hR4 KL
         go_wp2_with (first|(go_at_call 32;with_reducible refine(KH.out).mono ?_;rintro e w5 ⟨rfl,h5⟩;refine Hid.out ?_)|fail)
         unfold Hid
         obtain⟨D5,hs5,hc5,-⟩:=HS4.out.step h5
         have hbx5:=(HB4.out.chg hc5 HQ4.out).cell
         obtain⟨v9,w9,r1,r2,r3,r4⟩:=app_one5 w5 w.heap.size _ got ex hs5.gw (by have:=HBD.out.2.2;omega) hs5.chg.size
         have gA:G w5 (w5.alloc (.cells #[I ex] 3)):=(G.refl w5).alloc _
         have hs9:=hs5.app r2 (gA.chg.trans ⟨r3.os,r3.tape,r3.output,r3.size,fun k hk hn=>r3.block k hk (fun e=>hn e.symm)⟩) (fun k hk=>by
          rcases r4 with e|e
          ·rw[e] at hk;exact .inl hk
          ·rw[e] at hk;cases hk;exact .inr gA.size)
         have HS9:=hide hs9
         have HA9:=hide r1
         have hwm:wrap64 ((n:Int)-1)=(n:Int)-1:=by have h8:=HBD.out.2.1;have h9:=HLN.out;unfold wrap64;omega
         have hwp:wrap64 ((n:Int)-1+1)=(n:Int):=by have h8:=HBD.out.2.1;have h9:=HLN.out;unfold wrap64;omega
         have HWM:=hide hwm;have HWP:=hide hwp
         clear h5 hs5 hc5 r1 r2 r3 r4 gA hs9 KH hbx hwm hwp
         go_wp2_with (first|(at_builtin;refine wpList_append_run rfl _ _ 42 rfl _ _ rfl rfl HA9.out ?_)|fail)
         exact⟨⟨n,_,_,_,D5,by rw[cut_len1 HLN.out];have:=HLN.out;omega,by first|rfl|(rw[HWM.out,HWP.out])|simp,HNX.out,HS9.out⟩,by first|(rw[HWM.out,HWP.out];exact ms_b HS.out.rt.alen HLN.out (HS9.out.rt.alen.trans (cut_len1 HLN.out)))|exact ms_b HS.out.rt.alen HLN.out (HS9.out.rt.alen.trans (cut_len1 HLN.out))⟩
        ·have HNX:=hide (HJ.out.block _ _ _ _ _ _ _ HJN.out HR.out HQ.out rfl hway)
         have hwl:¬(inwP ⟨R.tx,hd,aq⟩ n ⟨ex,a,ec,eu⟩).length=0:=fun e=>hway (List.eq_nil_of_length_eq_zero e)
         obtain⟨way,hwe⟩:∃way,way=inwP ⟨R.tx,hd,aq⟩ n ⟨ex,a,ec,eu⟩:=⟨_,rfl⟩
         rw[←hwe] at KI hwl
         have d2:decide (way.length=0)=false:=by simp[hwl]
         have d3:((way.length:Int)==0)=false:=by rw[beq_eq_false_iff_ne];omega
         clear hway hwe
         go_wp2_with (first|(go_at_call 29;with_reducible refine(KI.out).mono ?_;rintro e w2 ⟨vw,rfl,o2,g2⟩;obtain⟨wya,wyc,rfl⟩:=row_form o2)|fail)
         exact⟨⟨n+1,hd,aq,got,D',HLN.out,by rw[HWN.out];exact rl1 n,HNX.out,HSV.out.G g2⟩,by rw[HWN.out];exact ms_a HS.out.rt.alen HLN.out (HSV.out.G g2).rt.alen⟩
       ·have hne:=hax
        have HNX:=hide (HJ.out.other _ _ _ _ _ _ _ HJN.out HR.out HQ.out hax)
        clear hax
        by_cases f1:a.lv=x.lv
        ·by_cases f2:a.lb=x.lb
         ·have f3:¬a.id=x.id:=fun f3=>hne (by cases a;cases x;simp at f1 f2 f3;simp[f1,f2,f3])
          have d3:decide (a.id=x.id)=false:=by simp[f3]
          have d4:(a.id==x.id)=false:=by simp[f3]
          clear hne
          have HF:=hide (And.intro f1 f2)
          clear f1 f2 f3
          obtain⟨⟨c4,c5,c6⟩,c1,c2,c3⟩:=HCC.out _ (G.refl _)
          have f1:=HF.out.1
          have f2:=HF.out.2
          rw[f1] at c1
          rw[f2] at c2
          clear f1 f2
          go_quiet (fail)
          generalize hV:World.drewN w1 _=V
          have HV:Hid (G w1 V):=by rw[←hV];exact(G.refl w1).drewN _
          clear hV c1 c2 c3 c4 c5 c6
          go_wp2_with fail
          exact⟨⟨n+1,hd,aq,got,D',HLN.out,by rw[HWN.out];exact rl1 n,HNX.out,HS.out.G (HBX.out.2.trans HV.out)⟩,by rw[HWN.out];exact ms_a HS.out.rt.alen HLN.out (HS.out.G (HBX.out.2.trans HV.out)).rt.alen⟩
         ·have d3:¬a.lb.toList=x.lb.toList:=fun q=>f2 (toList_inj q)
          have d4:(a.lb.toList==x.lb.toList)=false:=by simp[d3]
          clear hne
          have HF:=hide f1
          clear f1 f2
          obtain⟨⟨c4,c5,c6⟩,c1,c2,c3⟩:=HCC.out _ (G.refl _)
          have f1:=HF.out
          rw[f1] at c1
          clear f1
          go_quiet (fail)
          generalize hV:World.drewN w1 _=V
          have HV:Hid (G w1 V):=by rw[←hV];exact(G.refl w1).drewN _
          clear hV c1 c2 c3 c4 c5 c6
          go_wp2_with fail
          exact⟨⟨n+1,hd,aq,got,D',HLN.out,by rw[HWN.out];exact rl1 n,HNX.out,HS.out.G (HBX.out.2.trans HV.out)⟩,by rw[HWN.out];exact ms_a HS.out.rt.alen HLN.out (HS.out.G (HBX.out.2.trans HV.out)).rt.alen⟩
        ·have d3:decide (a.lv=x.lv)=false:=by simp[f1]
         have d4:(a.lv==x.lv)=false:=by simp[f1]
         clear hne
         clear f1
         obtain⟨⟨c4,c5,c6⟩,c1,c2,c3⟩:=HCC.out _ (G.refl _)
         go_quiet (fail)
         generalize hV:World.drewN w1 _=V
         have HV:Hid (G w1 V):=by rw[←hV];exact(G.refl w1).drewN _
         clear hV c1 c2 c3 c4 c5 c6
         go_wp2_with fail
         exact⟨⟨n+1,hd,aq,got,D',HLN.out,by rw[HWN.out];exact rl1 n,HNX.out,HS.out.G (HBX.out.2.trans HV.out)⟩,by rw[HWN.out];exact ms_a HS.out.rt.alen HLN.out (HS.out.G (HBX.out.2.trans HV.out)).rt.alen⟩
      ·have hne:n=aq.length:=by omega
       subst hne
       have hnI:¬((aq.length:Int)<(aq.length:Int)):=by omega
       have HNX:=hide (HJ.out.nxt _ _ _ _ HLTI.out hj)
       have HS:=hide hs
       clear hn hln hj hs hb1 hb2 hb3 hR
       go_wp2_with fail
       exact⟨⟨i+1,hd,aq,got,D',HLTI.out,by rw[HWI.out];exact rl1 i,HNX.out,HS.out⟩,by rw[HWI.out];exact ms_end HLTI.out⟩
    ·have hne:i=rs.length:=by omega
     subst hne
     have hiI:¬((rs.length:Int)<(rs.length:Int)):=by omega
     have HS:=hide hs;have HJ1:=hide hj
     clear hi hlt hll hj hs
     go_wp2_with fail
     go_ret
     exact⟨_,hd,aq,got,D',rfl,by rw[←HRS.out];exact HJ1.out,HS.out.gw,HS.out.rt,HS.out.chg,HS.out.new,HS.out.gn⟩
end
end Go.Proofs.YtadfaiciolfgjaaGreatDoor
