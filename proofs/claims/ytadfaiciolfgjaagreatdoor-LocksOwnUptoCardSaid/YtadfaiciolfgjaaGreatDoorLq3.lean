import Derived.Test.YtadfaiciolfgjaaGreatDoorLr15
namespace Go.Proofs.YtadfaiciolfgjaaGreatDoor
open Go.Proofs.Tryz
set_option maxHeartbeats 4000000
set_option maxRecDepth 100000
section
open Go.RowKit
structure WS(w wr:World)(b:Nat)(R:Rt)(D:Nat→Prop)(TX:List Tx)(OUT:List Int)(ov vt vh va:Value)(tv:List (Tx×Value))(D':Nat→Prop):Prop where
 rv:RV wr b ⟨TX,R.hd,R.aq⟩ D' vt vh va tv
 ow:wr.ownsRow w.heap.size 3 1 ov OUT.length (OUT.map fun z=>I z)
 nd:∀k,ov.ownBlock=some k→¬D' k
 chg:Chg D w wr
 new:∀k,D' k→D k∨w.heap.size≤k
theorem WS.G{w wr wr':World}{b:Nat}{R:Rt}{D D':Nat→Prop}{TX:List Tx}{OUT:List Int}{ov vt vh va:Value}{tv:List (Tx×Value)}(h:WS w wr b R D TX OUT ov vt vh va tv D')(g:Go.Proofs.YtadfaiciolfgjaaGreatDoor.G wr wr'):WS w wr' b R D TX OUT ov vt vh va tv D':=
 ⟨h.rv.G g,own_G h.ow g,h.nd,h.chg.trans g.chg,h.new⟩
theorem WS.hit{w V w9:World}{b gt cap:Nat}{R:Rt}{D D':Nat→Prop}{TX:List Tx}{OUT:List Int}{ov vh va v9:Value}{tv:List (Tx×Value)}(h:WS w V b R D TX OUT ov (.slice (some ⟨gt,0,none⟩) tv.length cap) vh va tv D')(g:Go.Proofs.YtadfaiciolfgjaaGreatDoor.G V w9){u:Nat}{e:Tx}{ev:Value}(he:tv[u]?=some (e,ev)){ws:List Int}(hv:w9.ownsRow V.heap.size 3 1 v9 ws.length (ws.map fun z=>I z)) :
  WS w (w9.setCell ⟨gt,u*3+2,none⟩ v9) b R D (TX.set u ⟨e.x,e.st,ws⟩) OUT ov (.slice (some ⟨gt,0,none⟩) (tv.set u (⟨e.x,e.st,ws⟩,v9)).length cap) vh va (tv.set u (⟨e.x,e.st,ws⟩,v9)) (fun k=>D' k∨v9.ownBlock=some k)∧Chg D' V (w9.setCell ⟨gt,u*3+2,none⟩ v9)∧∀k,v9.ownBlock=some k→V.heap.size≤k:=by
 obtain⟨p1,p2,p3⟩:=h.rv.setW g he hv
 have hfr:∀k,v9.ownBlock=some k→V.heap.size≤k:=fun k hk=>(World.ownsRow.lt hv k hk).1
 refine⟨⟨by rw[List.length_set];exact p1,own_chg h.ow p2 h.nd,fun k hk hd=>?_,h.chg.more p2 (fun i hi hd=>?_),fun k hk=>?_⟩,p2,hfr⟩
 ·rcases hd with hd|hd
  ·exact h.nd k hk hd
  ·have h1:=hfr k hd
   have h2:=own_lt h.ow hk
   omega
 ·rcases h.new i hd with h1|h1
  ·exact h1
  ·omega
 ·rcases hk with hk|hk
  ·exact h.new k hk
  ·exact .inr (Nat.le_trans h.chg.size (hfr k hk))
def WdP(w:World)(D:Nat→Prop)(b:Nat)(R:Rt)(J:Int→List Tx→List Int→Prop)(e:Ending)(w':World):Prop:=∃v OUT TX last D',e=.returned v∧J last TX OUT∧(∀a∈TX,¬last<a.st)∧w'.ownsRow w.heap.size 3 1 v OUT.length (OUT.map fun z=>I z)∧RT w' b ⟨TX,R.hd,R.aq⟩ D'∧Chg D w w'∧(∀k,D' k→D k∨w.heap.size≤k)∧∀k,v.ownBlock=some k→¬D' k
theorem bd1{a b c d e:Nat}(h1:a≤100000000000+b)(h2:b<c)(h3:c≤d+e)(h4:d<400000000000)(h5:e<400000000000):a<1000000000000:=by omega
def OldK(last:Int)(TX:List Tx)(n:Nat)(kv:Value):Prop:=(kv=I (-1)∧∀(j:Nat) (a:Tx),j<n→TX[j]?=some a→¬last<a.st)∨∃(k:Nat) (e:Tx),kv=I (k:Int)∧k<n∧TX[k]?=some e∧last<e.st∧∀(j:Nat) (a:Tx),j<n→TX[j]?=some a→last<a.st→e.st≤a.st
theorem OldK.no{last:Int}{TX:List Tx}{n:Nat}{kv:Value}{a:Tx}(h:OldK last TX n kv)(ha:TX[n]?=some a)(hn:¬last<a.st):OldK last TX (n+1) kv:=by
 rcases h with ⟨h1,h2⟩|⟨k,e,h1,h2,h3,h4,h5⟩
 ·refine .inl ⟨h1,fun j c hj hc=>?_⟩
  by_cases ej:j=n
  ·subst ej;rw[ha] at hc;cases hc;exact hn
  ·exact h2 j c (by omega) hc
 ·refine .inr ⟨k,e,h1,by omega,h3,h4,fun j c hj hc hl=>?_⟩
  by_cases ej:j=n
  ·subst ej;rw[ha] at hc;cases hc;exact absurd hl hn
  ·exact h5 j c (by omega) hc hl
theorem OldK.first{last:Int}{TX:List Tx}{n:Nat}{a:Tx}(h2:∀(j:Nat) (a:Tx),j<n→TX[j]?=some a→¬last<a.st)(ha:TX[n]?=some a)(hn:last<a.st):OldK last TX (n+1) (I (n:Int)):=by
 refine .inr ⟨n,a,rfl,by omega,ha,hn,fun j c hj hc hl=>?_⟩
 by_cases ej:j=n
 ·subst ej;rw[ha] at hc;cases hc;omega
 ·exact absurd hl (h2 j c (by omega) hc)
theorem OldK.older{last:Int}{TX:List Tx}{n:Nat}{e a:Tx}(h5:∀(j:Nat) (a:Tx),j<n→TX[j]?=some a→last<a.st→e.st≤a.st)(ha:TX[n]?=some a)(hn:last<a.st)(hl:a.st<e.st):OldK last TX (n+1) (I (n:Int)):=by
 refine .inr ⟨n,a,rfl,by omega,ha,hn,fun j c hj hc hl2=>?_⟩
 by_cases ej:j=n
 ·subst ej;rw[ha] at hc;cases hc;omega
 ·have:=h5 j c (by omega) hc hl2;omega
theorem OldK.stay{last:Int}{TX:List Tx}{n k:Nat}{e a:Tx}(h2:k<n)(h3:TX[k]?=some e)(h4:last<e.st)(h5:∀(j:Nat) (a:Tx),j<n→TX[j]?=some a→last<a.st→e.st≤a.st)(ha:TX[n]?=some a)(hl:¬a.st<e.st):OldK last TX (n+1) (I (k:Int)):=by
 refine .inr ⟨k,e,rfl,by omega,h3,h4,fun j c hj hc hl2=>?_⟩
 by_cases ej:j=n
 ·subst ej;rw[ha] at hc;cases hc;omega
 ·exact h5 j c (by omega) hc hl2
theorem wounds_r{w:World}{b:Nat}{R:Rt}{D:Nat→Prop}{vt vh va:Value}{tv:List (Tx×Value)}(h:RV w b R D vt vh va tv)(J:Int→List Tx→List Int→Prop)(hJ:WJ R J)(h0:J 0 R.tx [])(hl:R.tx.length<400000000000∧R.hd.length<400000000000∧R.aq.length<400000000000):Calls prog 30 #[ptr b] w (WdP w D b R J):=by
 have HJ:=hide hJ;have HLL:=hide hl
 have H0:Hid (J 0 R.tx []∧WS w w b R D R.tx [] (.slice none 0 0) vt vh va tv D):=⟨h0,h,⟨rfl,.inl ⟨rfl,rfl⟩⟩,(fun k hk=>by cases hk),Chg.refl _ _,fun k hk=>.inl hk⟩
 clear h h0 hJ hl
 go_enter func30,ntmps30
 go_wp2_with fail
 go_loopw [3,4] (fun ov lv wr=>∃(last:Int) (TX:List Tx) (OUT:List Int) (vt:Value) (tv:List (Tx×Value)) (D':Nat→Prop),lv=I last∧J last TX OUT∧WS w wr b R D TX OUT ov vt vh va tv D') (fun _ lv _=>((R.tx.map Tx.st).filter fun z=>decide (RowKit.intOf lv<z)).length)
 case atStart=>exact⟨0,R.tx,[],vt,tv,D,rfl,H0.out.1,H0.out.2⟩
 case round=>
  clear H0
  obtain⟨last,TX,OUT,vt,tv,D',rfl,hj,hs⟩:=hrel
  have hids:=HJ.out.ids _ _ _ hj
  have htxl:TX.length=R.tx.length:=by
   have:=congrArg List.length hids
   rw[List.length_map,List.length_map] at this
   exact this
  have HTXL:Hid (TX.length<400000000000):=by have:=HLL.out.1;show _<_;omega
  have HIDS:=hide hids;have HJJ:=hide hj;have HS:=hide hs
  obtain⟨ta,tcap,rfl⟩:=row_form hs.rv.rt
  clear hids hj hs htxl
  go_wp2_with fail
  generalize wr=w0 at HS⊢
  go_loopw [5,6] (fun kv iv wr=>∃n:Nat,n≤tv.length∧iv=I (n:Int)∧OldK last TX n kv∧G w0 wr) (fun _ iv _=>tv.length-(RowKit.intOf iv).toNat)
  case atStart=>exact⟨0,Nat.zero_le _,rfl,.inl ⟨rfl,fun j a hj _=>by omega⟩,G.refl _⟩
  case round=>
   obtain⟨n,hn,rfl,hok,hgw⟩:=hrel
   have hR:=(HS.out.G hgw).rv
   have hbc:=hR.blk.cell
   have htl:tv.length<400000000000:=by have h1:=HTXL.out;have h2:tv.length=TX.length:=hR.tl;omega
   by_cases hlt:n<tv.length
   ·obtain⟨⟨e,ev⟩,he⟩:∃a,tv[n]?=some a:=⟨_,List.getElem?_eq_getElem hlt⟩
    obtain⟨ga,hga,kc⟩:=row_cell tx_len hR.rt he
    subst hga
    have k1:wr.cell? ⟨ga,n*3+1,none⟩=some (I e.st):=kc 1 (by omega)
    have hnI:(n:Int)<(tv.length:Int):=by omega
    have hn0:(0:Int)≤(n:Int):=by omega
    have hwn:wrap64 ((n:Int)+1)=(n:Int)+1:=by unfold wrap64;omega
    have hea:TX[n]?=some e:=at_fst hR.tm he
    have HWN:=hide hwn;have HLT:=hide hlt;have HGW:=hide hgw
    by_cases hst:last<e.st
    ·have d1:decide (last<e.st)=true:=by simp[hst]
     rcases hok with ⟨rfl,h2⟩|⟨k,ke,rfl,h2,h3,h4,h5⟩
     ·have HC:=hide (OldK.first h2 hea hst)
      clear hn hlt he hwn kc hgw hR h2 hea htl
      go_wp2_with fail
      go_quiet (fail)
      generalize hV:World.drewN wr _=V
      have HGV:Hid (G wr V):=by rw[←hV];exact(G.refl wr).drewN _
      clear hV hbc k1
      go_wp2_with fail
      exact⟨⟨n+1,HLT.out,by rw[HWN.out];exact rl1 n,HC.out,HGW.out.trans HGV.out⟩,by rw[HWN.out];exact ms_end HLT.out⟩
     ·obtain⟨kv2,hkv⟩:=hR.at h3
      obtain⟨gb,hgb,kc2⟩:=row_cell tx_len hR.rt hkv
      have eg:ga=gb:=by simpa using hgb
      subst eg
      have k2:wr.cell? ⟨ga,k*3+1,none⟩=some (I ke.st):=kc2 1 (by omega)
      have hkI:(k:Int)<(tv.length:Int):=by omega
      have hk0:(0:Int)≤(k:Int):=by omega
      have hkn:¬((k:Int)<0):=by omega
      have hkd:decide ((k:Int)<0)=false:=by simp
      by_cases hlt2:e.st<ke.st
      ·have HC:=hide (OldK.older h5 hea hst hlt2)
       have d2:decide (e.st<ke.st)=true:=by simp[hlt2]
       clear hn hlt he hwn kc hgw hR h2 hea htl h3 h4 h5 hkv kc2 hgb
       go_wp2_with fail
       go_quiet (fail)
       generalize hV:World.drewN wr _=V
       have HGV:Hid (G wr V):=by rw[←hV];exact(G.refl wr).drewN _
       clear hV hbc k1 k2
       go_wp2_with fail
       exact⟨⟨n+1,HLT.out,by rw[HWN.out];exact rl1 n,HC.out,HGW.out.trans HGV.out⟩,by rw[HWN.out];exact ms_end HLT.out⟩
      ·have HC:=hide (OldK.stay h2 h3 h4 h5 hea hlt2)
       have d2:decide (e.st<ke.st)=false:=by simp;omega
       clear hn hlt he hwn kc hgw hR h2 hea htl h3 h4 h5 hkv kc2 hgb
       go_wp2_with fail
       go_quiet (fail)
       generalize hV:World.drewN wr _=V
       have HGV:Hid (G wr V):=by rw[←hV];exact(G.refl wr).drewN _
       clear hV hbc k1 k2
       go_wp2_with fail
       exact⟨⟨n+1,HLT.out,by rw[HWN.out];exact rl1 n,HC.out,HGW.out.trans HGV.out⟩,by rw[HWN.out];exact ms_end HLT.out⟩
    ·have d1:decide (last<e.st)=false:=by simp;omega
     have HC:=hide (hok.no hea hst)
     clear hn hlt he hwn kc hgw hR hea htl hok
     go_wp2_with fail
     go_quiet (fail)
     generalize hV:World.drewN wr _=V
     have HGV:Hid (G wr V):=by rw[←hV];exact(G.refl wr).drewN _
     clear hV hbc k1
     go_wp2_with fail
     exact⟨⟨n+1,HLT.out,by rw[HWN.out];exact rl1 n,HC.out,HGW.out.trans HGV.out⟩,by rw[HWN.out];exact ms_end HLT.out⟩
   ·have hne:n=tv.length:=by omega
    subst hne
    have hnI:¬((tv.length:Int)<(tv.length:Int)):=by omega
    have hS1:=HS.out.G hgw
    have htl2:=hR.tl
    clear hn hlt hgw
    rcases hok with ⟨rfl,h2⟩|⟨k,ke,rfl,h2,h3,h4,h5⟩
    ·have HM:Hid (∀a∈TX,¬last<a.st):=fun a ha=>by
      obtain⟨j,hj⟩:=List.mem_iff_getElem?.1 ha
      exact h2 j a (by have:=(List.getElem?_eq_some_iff.1 hj).1;have h9:tv.length=TX.length:=htl2;omega) hj
     have HS1:=hide hS1
     clear h2 hS1 hR htl htl2
     go_wp2_with fail
     go_ret
     exact⟨u3,OUT,TX,last,D',rfl,HJJ.out,fun a ha=>by have:=HM.out a ha;omega,HS1.out.ow,⟨_,_,_,_,HS1.out.rv⟩,HS1.out.chg,HS1.out.new,HS1.out.nd⟩
    ·obtain⟨kv2,hkv⟩:=hR.at h3
     obtain⟨gt,hgt,kc⟩:=row_cell tx_len hR.rt hkv
     subst hgt
     have k0:wr.cell? ⟨gt,k*3,none⟩=some (I ke.x):=kc 0 (by omega)
     have k1:wr.cell? ⟨gt,k*3+1,none⟩=some (I ke.st):=kc 1 (by omega)
     have hrw:wr.ownsRow 0 3 1 kv2 ke.ws.length (ke.ws.map fun z=>I z):=hR.rw_ _ (List.mem_of_getElem? hkv)
     obtain⟨wa0,wc0,rfl⟩:=row_form hrw
     have k2:wr.cell? ⟨gt,k*3+2,none⟩=some (.slice wa0 ke.ws.length wc0):=kc 2 (by omega)
     have hkI:(k:Int)<(tv.length:Int):=by omega
     have hk0:(0:Int)≤(k:Int):=by omega
     have hkn:¬((k:Int)<0):=by omega
     have hmem:=List.mem_of_getElem? h3
     have hmin:∀a∈TX,last<a.st→ke.st≤a.st:=fun a ha hl=>by
      obtain⟨j,hj⟩:=List.mem_iff_getElem?.1 ha
      exact h5 j a (by have:=(List.getElem?_eq_some_iff.1 hj).1;have h9:tv.length=TX.length:=htl2;omega) hj hl
     have hms:((R.tx.map Tx.st).filter fun z=>decide (ke.st<z)).length<((R.tx.map Tx.st).filter fun z=>decide (last<z)).length:=by
      refine flt_less ?_ h4
      have h6:(ke.x,ke.st)∈R.tx.map (fun e=>(e.x,e.st)):=by rw[←HIDS.out];exact List.mem_map.2 ⟨ke,hmem,rfl⟩
      obtain⟨a,ha,hae⟩:=List.mem_map.1 h6
      exact List.mem_map.2 ⟨a,ha,(Prod.mk.inj hae).2⟩
     have HMS:=hide hms
     have KQ:=hide (request_r hR ke.x (show R.aq.length<2000000000000 by have:=HLL.out.2.2;omega))
     have HS1:=hide hS1
     rcases idxI_cases (fun e:Lk=>e.x==ke.x) R.aq with ⟨hq1,hq2⟩|⟨m,q,hq1,hq2,hq3,hq4⟩
     ·have HNX:=hide (HJ.out.skip _ _ _ _ HJJ.out hmem h4 hmin (.inl hq2))
      replace KQ:Hid (Calls prog 25 #[ptr b,I ke.x] wr fun e w'=>e=.returned (I (-1))∧w'=wr):=by have h9:=KQ.out;rw[hq1] at h9;exact h9
      clear h2 h3 h4 h5 hS1 hR htl htl2 hkv kc hrw hmem hmin hms hq1 hq2
      go_wp2_with (first|(go_at_call 25;with_reducible refine(KQ.out).mono ?_;rintro e w' ⟨rfl,rfl⟩)|fail)
      exact⟨⟨ke.st,TX,OUT,_,tv,D',rfl,HNX.out,HS1.out⟩,HMS.out⟩
     ·replace KQ:Hid (Calls prog 25 #[ptr b,I ke.x] wr fun e w'=>e=.returned (I (m:Int))∧w'=wr):=by have h9:=KQ.out;rw[hq1] at h9;exact h9
      have hm0:¬((m:Int)<0):=by omega
      by_cases hws:ke.ws=[]
      ·have hwl:ke.ws.length=0:=by rw[hws];rfl
       rw[hwl] at k2
       have hqx:q.x=ke.x:=by simpa using hq3
       have HNX:=hide (HJ.out.hits _ _ _ _ m q HJJ.out hmem h4 hmin hq2 hqx hws)
       have HWY:=hide (HJ.out.wy m q hq2)
       have KI:=hide (inWay_r hR m q hq2 (show R.hd.length<400000000000∧R.aq.length<400000000000 from HLL.out.2))
       have HK3:Hid (TX[k]?=some ke):=h3
       have hwl2:(inwP R m q).length≤R.hd.length+R.aq.length:=by
        have h6:=wayP_len q (R.aq.take m) (wayP q [] R.hd)
        have h7:=wayP_len q R.hd []
        rw[List.length_take] at h6
        simp only[List.length_nil] at h7
        show(wayP q (wayP q [] R.hd) (R.aq.take m)).length≤_
        omega
       have HWL:=hide hwl2
       clear h2 h3 h4 h5 hS1 hR htl htl2 hkv kc hrw hmem hmin hms hq1 hq2 hq3 hq4 hws hwl hqx hwl2
       go_wp2_with (first|(go_at_call 25;with_reducible refine(KQ.out).mono ?_;rintro e w' ⟨rfl,rfl⟩)|(go_at_call 29;with_reducible refine(KI.out).mono ?_;rintro e w2 ⟨vw,rfl,o2,g2⟩;obtain⟨wya,wyc,rfl⟩:=row_form o2)|fail)
       obtain⟨way,hway⟩:∃way,way=inwP R m q:=⟨_,rfl⟩
       replace o2:w2.ownsRow w'.heap.size 3 1 (.slice wya way.length wyc) way.length (way.map fun z=>I z):=by rw[hway];exact o2
       rw[←hway] at HNX HWY HWL
       rw[show(inwP ⟨TX,R.hd,R.aq⟩ m q)=way from hway.symm]
       have HY0:Hid (w2.ownsRow w.heap.size 3 1 (.slice wya way.length wyc) way.length (way.map fun z=>I z)∧∀k,(Value.slice wya way.length wyc).ownBlock=some k→¬D' k):=⟨own_lo o2 HS1.out.chg.size,fun k hk hd=>by
        have h6:=(World.ownsRow.lt o2 k hk).1
        have h7:=HS1.out.rv.dl k hd
        omega⟩
       have HS2:=hide (HS1.out.G g2)
       have HWB:=hide (HJ.out.bd _ _ _ HJJ.out)
       clear o2 g2 hway KI KQ k0 k1 k2 HS1 hbc
       go_loopw [3,9] (fun ov iv wr=>∃(j:Nat) (tv2:List (Tx×Value)) (D2:Nat→Prop),j≤way.length∧iv=I (j:Int)∧WS w wr b R D (wndL ke.st ke.x (TX,OUT) (way.take j)).1 (wndL ke.st ke.x (TX,OUT) (way.take j)).2 ov (.slice (some ⟨gt,0,none⟩) tv2.length tcap) vh va tv2 D2∧wr.ownsRow w.heap.size 3 1 (.slice wya way.length wyc) way.length (way.map fun z=>I z)∧∀k,(Value.slice wya way.length wyc).ownBlock=some k→¬D2 k) (fun _ iv _=>way.length-(RowKit.intOf iv).toNat)
       case atStart=>exact⟨0,tv,D',Nat.zero_le _,rfl,HS2.out,HY0.out.1,HY0.out.2⟩
       case round=>
        clear HS2 HY0
        obtain⟨j,tv2,D2,hj,rfl,hs2,hyr,hyd⟩:=hrel
        have hwl:=HWL.out
        have hll:=HLL.out
        by_cases hlj:j<way.length
        ·obtain⟨y,hy⟩:∃a,way[j]?=some a:=⟨_,List.getElem?_eq_getElem hlj⟩
         obtain⟨gy,hgy,ky⟩:=int_at hyr hy
         subst hgy
         obtain⟨hwb,hidX⟩:=wndL_bd (st:=ke.st) (id:=ke.x) (s:=(TX,OUT)) HWB.out (way.take j)
         have hsn:wndL ke.st ke.x (TX,OUT) (way.take (j+1))=wnd1 ke.st ke.x (wndL ke.st ke.x (TX,OUT) (way.take j)) y:=by rw[take_one hy,wndL_snoc]
         rw[List.length_take,Nat.min_eq_left hj] at hwb
         rw[show((TX,OUT):List Tx×List Int).1=TX from rfl] at hidX
         obtain⟨X,O,hXO⟩:∃X O,(X,O)=wndL ke.st ke.x (TX,OUT) (way.take j):=⟨_,_,rfl⟩
         rw[←hXO] at hs2 hwb hidX hsn
         have hR:=hs2.rv
         have hXl:X.length<400000000000:=by
          have h6:=congrArg List.length hidX
          rw[List.length_map,List.length_map] at h6
          have:=HTXL.out
          simp only at h6
          omega
         obtain⟨te,hte,htx⟩:=HWY.out y (List.mem_of_getElem? hy)
         have htX:y∈X.map Tx.x:=by
          have h6:X.map Tx.x=R.tx.map Tx.x:=ids_x (hidX.trans HIDS.out)
          rw[h6]
          exact List.mem_map.2 ⟨te,hte,htx⟩
         have KPL:=hide (place_r hR y (show X.length<2000000000000 by omega))
         rcases idxI_cases (fun e:Tx=>e.x==y) X with ⟨-,ht2⟩|⟨u,ue,ht1,ht2,ht3,ht4⟩
         ·obtain⟨a,ha,hax⟩:=List.mem_map.1 htX
          have:=ht2 a ha
          simp[hax] at this
         replace KPL:Hid (Calls prog 22 #[ptr b,I y] wr fun e w'=>e=.returned (I (u:Int))∧w'=wr):=by have h9:=KPL.out;rw[show idxI (fun e:Tx=>e.x==y) (⟨X,R.hd,R.aq⟩:Rt).tx=(u:Int)from ht1] at h9;exact h9
         have hux:ue.x=y:=by simpa using ht3
         rw[wnd1_at ht2 hux (fun i a hi ha hx=>by have:=ht4 i a hi ha;simp[hx] at this)] at hsn
         obtain⟨uv,huv⟩:=hR.at ht2
         obtain⟨gb,hgb,kc⟩:=row_cell tx_len hR.rt huv
         have eg:gt=gb:=by simpa using hgb
         subst eg
         have kU:wr.cell? ⟨gt,u*3+1,none⟩=some (I ue.st):=kc 1 (by omega)
         have hrw:wr.ownsRow 0 3 1 uv ue.ws.length (ue.ws.map fun z=>I z):=hR.rw_ _ (List.mem_of_getElem? huv)
         obtain⟨wa,wc,rfl⟩:=row_form hrw
         have kW:wr.cell? ⟨gt,u*3+2,none⟩=some (.slice wa ue.ws.length wc):=kc 2 (by omega)
         have hul:=(List.getElem?_eq_some_iff.1 huv).1
         have huI:(u:Int)<(tv2.length:Int):=by omega
         have hu0:(0:Int)≤(u:Int):=by omega
         have hjI:(j:Int)<(way.length:Int):=by omega
         have hj0:(0:Int)≤(j:Int):=by omega
         have hwj:wrap64 ((j:Int)+1)=(j:Int)+1:=by unfold wrap64;omega
         have hbc:=hR.blk.cell
         have HWJ:=hide hwj;have HLJ:=hide hlj
         have HSX:=hide hs2;have HYR:=hide hyr;have HYD:=hide hyd
         by_cases hle:ue.st≤ke.st
         ·rw[if_pos hle] at hsn
          have HSN:=hide hsn
          have d1:decide (ue.st≤ke.st)=true:=by simp[hle]
          clear hj hlj hy hwb hidX hXl hte htx htX ht1 ht2 ht3 ht4 hux huv kc hgb hrw hul hwj hs2 hyr hyd hR hsn hwl hll hXO
          go_wp2_with (first|(go_at_call 22;with_reducible refine(KPL.out).mono ?_;rintro e w' ⟨rfl,rfl⟩)|fail)
          exact⟨⟨j+1,tv2,D2,HLJ.out,by rw[HWJ.out];exact rl1 j,by rw[HSN.out];exact HSX.out,HYR.out,HYD.out⟩,by rw[HWJ.out];exact ms_end HLJ.out⟩
         ·rw[if_neg hle] at hsn
          have d1:decide (ue.st≤ke.st)=false:=by simp;omega
          have hXk:∃ke2,X[k]?=some ke2∧ke2.x=ke.x:=by
           have h6:=congrArg (fun l:List (Int×Int)=>l[k]?) hidX
           simp only[List.getElem?_map] at h6
           rw[HK3.out] at h6
           cases h7:X[k]? with
           | none=>rw[h7] at h6;cases h6
           | some c=>rw[h7] at h6;exact⟨c,rfl,by simpa using congrArg (fun o:Option (Int×Int)=>o.map Prod.fst) h6⟩
          obtain⟨ke2,hk2,hk2x⟩:=hXk
          obtain⟨kv9,hkv9⟩:=hR.at hk2
          obtain⟨gb,hgb2,kc2⟩:=row_cell tx_len hR.rt hkv9
          have eg:gt=gb:=by simpa using hgb2
          subst eg
          have kK:wr.cell? ⟨gt,k*3,none⟩=some (I ke.x):=by rw[←hk2x];exact kc2 0 (by omega)
          have hkl2:=(List.getElem?_eq_some_iff.1 hkv9).1
          have hkI2:(k:Int)<(tv2.length:Int):=by omega
          have HUP:=hide (hwb.ws ue (List.mem_of_getElem? ht2))
          have HUV:=hide huv
          have HGT:Hid (gt<wr.heap.size):=own_lt hR.rt rfl
          have HCS:Hid (∀U,G wr U→(∀o,U.cell? ⟨b,o,none⟩=[.slice (some ⟨gt,0,none⟩) tv2.length tcap,vh,va][o]?)∧U.cell? ⟨gt,u*3+2,none⟩=some (.slice wa ue.ws.length wc)∧U.cell? ⟨gt,k*3,none⟩=some (I ke.x)):=fun U hU=>⟨(hR.blk.G hU).cell,(hU.cell HGT.out).trans kW,(hU.cell HGT.out).trans kK⟩
          by_cases hws:ue.ws=[]
          ·have hwl0:ue.ws.length=0:=by rw[hws];rfl
           rw[if_pos hws] at hsn
           have HSN:=hide hsn
           have KP1:=hide (put_r wr w.heap.size u3 O y hs2.ow hwb.up (bd1 (show O.length≤100000000000+j from hwb.len) hlj hwl hll.2.1 hll.2.2))
           have HWS:=hide hws
           have HJL:=hide hj
           have HX2:=hide ht2
           have d2:decide (ue.ws.length=0)=true:=by simp[hwl0]
           rw[hwl0] at kW
           clear hj hlj hy hwb hidX hXl hte htx htX ht1 ht2 ht3 ht4 hux huv kc hgb hrw hul hwj hs2 hyr hyd hR hsn hwl hll hXO hk2 hk2x hkv9 kc2 hgb2 hkl2 hws hle
           go_wp2_with (first|(go_at_call 22;with_reducible refine(KPL.out).mono ?_;rintro e w' ⟨rfl,rfl⟩)|(go_at_call 64;with_reducible refine(KP1.out).mono ?_;rintro e w8 ⟨v8,rfl,o8,g8⟩;refine Hid.out ?_)|fail)
           unfold Hid
           have HS3:Hid (WS w w8 b R D X (insP y O) v8 (.slice (some ⟨gt,0,none⟩) tv2.length tcap) vh va tv2 D2):=⟨HSX.out.rv.G g8,own_lo o8 HSX.out.chg.size,fun k hk hd=>by
            have h6:=(World.ownsRow.lt o8 k hk).1
            have h7:=HSX.out.rv.dl k hd
            omega,HSX.out.chg.trans g8.chg,HSX.out.new⟩
           have HG3:=hide g8
           have HY3:=hide (own_G HYR.out g8)
           clear o8 g8 KP1 KPL hbc kU kW kK ky hwl0 d2
           go_wp2_with fail
           have KP2:=hide (put_r w8.drew 0 (.slice wa ue.ws.length wc) ue.ws ke.x ((HS3.out.G (G.refl w8).drew).rv.rw_ _ (List.mem_of_getElem? HUV.out)) HUP.out.1 (bd1 HUP.out.2 HLJ.out HWL.out HLL.out.2.1 HLL.out.2.2))
           have HC3:Hid (∀U,G w8 U→(fun U=>(∀o,U.cell? ⟨b,o,none⟩=[.slice (some ⟨gt,0,none⟩) tv2.length tcap,vh,va][o]?)∧U.cell? ⟨gt,u*3+2,none⟩=some (.slice wa ue.ws.length wc)∧U.cell? ⟨gt,k*3,none⟩=some (I ke.x)) U):=fun U hU=>HCS.out U (HG3.out.trans hU)
           refine wp_region_noPanic ?_
           refine wp_region_L (S:=(fun U=>(∀o,U.cell? ⟨b,o,none⟩=[.slice (some ⟨gt,0,none⟩) tv2.length tcap,vh,va][o]?)∧U.cell? ⟨gt,u*3+2,none⟩=some (.slice wa ue.ws.length wc)∧U.cell? ⟨gt,k*3,none⟩=some (I ke.x))) 24 (by kernel_rfl) (HC3.out _ (G.refl _).drew) (fun hHeld=>?_)
           refine wpAnyL_take (i:=0) (v:=?_) rfl (by kernel_rfl) (by kernel_rfl) (by kernel_rfl) (by kernel_rfl) (fun _ _ _ h=>h) (Or.inl ⟨by rfl,?_⟩) hHeld ?_
           rotate_left 1
           ·(intro w hSw;obtain⟨q1,q2,q3⟩:=hSw;go_simp;try with_reducible rfl)
           try simp only[Act.put,zzA,zzB,zzD,zzE,zzF]
           refine wpAnyL_take (i:=1) (v:=?_) rfl (by kernel_rfl) (by kernel_rfl) (by kernel_rfl) (by kernel_rfl) (fun _ _ _ h=>h) (Or.inl ⟨by rfl,?_⟩) hHeld ?_
           rotate_left 1
           ·(intro w hSw;obtain⟨q1,q2,q3⟩:=hSw;go_simp;try with_reducible rfl)
           try simp only[Act.put,zzA,zzB,zzC,zzD,zzE,zzF]
           refine wpAnyL_take (i:=2) (v:=?_) rfl (by kernel_rfl) (by kernel_rfl) (by kernel_rfl) (by kernel_rfl) (fun _ _ _ h=>h) (Or.inl ⟨by rfl,?_⟩) hHeld ?_
           rotate_left 1
           ·(intro w hSw;obtain⟨q1,q2,q3⟩:=hSw;go_simp;try with_reducible rfl)
           try simp only[Act.put,zzA,zzB,zzC,zzD,zzE,zzF]
           refine wpAnyL_take (i:=3) (v:=?_) rfl (by kernel_rfl) (by kernel_rfl) (by kernel_rfl) (by kernel_rfl) (fun _ _ _ h=>h) (Or.inl ⟨by rfl,?_⟩) hHeld ?_
           rotate_left 1
           ·(intro w hSw;obtain⟨q1,q2,q3⟩:=hSw;go_simp;try with_reducible rfl)
           try simp only[Act.put,zzA,zzB,zzC,zzD,zzE,zzF]
           refine wpAnyL_take (i:=4) (v:=?_) rfl (by kernel_rfl) (by kernel_rfl) (by kernel_rfl) (by kernel_rfl) (fun _ _ _ h=>h) (Or.inl ⟨by rfl,?_⟩) hHeld ?_
           rotate_left 1
           ·(intro w hSw;obtain⟨q1,q2,q3⟩:=hSw;go_simp;try with_reducible rfl)
           try simp only[Act.put,zzA,zzB,zzC,zzD,zzE,zzF]
           refine wpAnyL_take (i:=5) (v:=?_) rfl (by kernel_rfl) (by kernel_rfl) (by kernel_rfl) (by kernel_rfl) (fun _ _ _ h=>h) (Or.inl ⟨by rfl,?_⟩) hHeld ?_
           rotate_left 1
           ·(intro w hSw;obtain⟨q1,q2,q3⟩:=hSw;go_simp;try with_reducible rfl)
           try simp only[Act.put,zzA,zzB,zzC,zzD,zzE,zzF]
           refine wpAnyL_take (i:=6) (v:=?_) rfl (by kernel_rfl) (by kernel_rfl) (by kernel_rfl) (by kernel_rfl) (fun _ _ _ h=>h) (Or.inl ⟨by rfl,?_⟩) hHeld ?_
           rotate_left 1
           ·(intro w hSw;obtain⟨q1,q2,q3⟩:=hSw;go_simp;try with_reducible rfl)
           try simp only[Act.put,zzA,zzB,zzC,zzD,zzE,zzF]
           refine wpAnyL_take (i:=7) (v:=?_) rfl (by kernel_rfl) (by kernel_rfl) (by kernel_rfl) (by kernel_rfl) (fun _ _ _ h=>h) (Or.inl ⟨by rfl,?_⟩) hHeld ?_
           rotate_left 1
           ·(intro w hSw;obtain⟨q1,q2,q3⟩:=hSw;go_simp;try with_reducible rfl)
           try simp only[Act.put,zzA,zzB,zzC,zzD,zzE,zzF]
           refine wpAnyL_take (i:=8) (v:=?_) rfl (by kernel_rfl) (by kernel_rfl) (by kernel_rfl) (by kernel_rfl) (fun _ _ _ h=>h) (Or.inl ⟨by rfl,?_⟩) hHeld ?_
           rotate_left 1
           ·(intro w hSw;obtain⟨q1,q2,q3⟩:=hSw;go_simp;try with_reducible rfl)
           try simp only[Act.put,zzA,zzB,zzC,zzD,zzE,zzF]
           refine wpAnyL_take (i:=9) (v:=?_) rfl (by kernel_rfl) (by kernel_rfl) (by kernel_rfl) (by kernel_rfl) (fun _ _ _ h=>h) (Or.inl ⟨by rfl,?_⟩) hHeld ?_
           rotate_left 1
           ·(intro w hSw;obtain⟨q1,q2,q3⟩:=hSw;go_simp;try with_reducible rfl)
           try simp only[Act.put,zzA,zzB,zzC,zzD,zzE,zzF]
           refine wpAnyL_take (i:=10) (v:=?_) rfl (by kernel_rfl) (by kernel_rfl) (by kernel_rfl) (by kernel_rfl) (fun _ _ _ h=>h) (Or.inl ⟨by rfl,?_⟩) hHeld ?_
           rotate_left 1
           ·(intro w hSw;obtain⟨q1,q2,q3⟩:=hSw;go_simp;try with_reducible rfl)
           try simp only[Act.put,zzA,zzB,zzC,zzD,zzE,zzF]
           refine wpAnyL_take (i:=11) (v:=?_) rfl (by kernel_rfl) (by kernel_rfl) (by kernel_rfl) (by kernel_rfl) (fun _ _ _ h=>h) (Or.inl ⟨by rfl,?_⟩) hHeld ?_
           rotate_left 1
           ·(intro w hSw;obtain⟨q1,q2,q3⟩:=hSw;go_simp;try with_reducible rfl)
           try simp only[Act.put,zzA,zzB,zzC,zzD,zzE,zzF]
           refine wpAnyL_take (i:=12) (v:=?_) rfl (by kernel_rfl) (by kernel_rfl) (by kernel_rfl) (by kernel_rfl) (fun _ _ _ h=>h) (Or.inl ⟨by rfl,?_⟩) hHeld ?_
           rotate_left 1
           ·(intro w hSw;obtain⟨q1,q2,q3⟩:=hSw;go_simp;try with_reducible rfl)
           try simp only[Act.put,zzA,zzB,zzC,zzD,zzE,zzF]
           refine wpAnyL_take (i:=13) (v:=?_) rfl (by kernel_rfl) (by kernel_rfl) (by kernel_rfl) (by kernel_rfl) (fun _ _ _ h=>h) (Or.inl ⟨by rfl,?_⟩) hHeld ?_
           rotate_left 1
           ·(intro w hSw;obtain⟨q1,q2,q3⟩:=hSw;go_simp;try with_reducible rfl)
           try simp only[Act.put,zzA,zzB,zzC,zzD,zzE,zzF]
           refine wpAnyL_take (i:=14) (v:=?_) rfl (by kernel_rfl) (by kernel_rfl) (by kernel_rfl) (by kernel_rfl) (fun _ _ _ h=>h) (Or.inl ⟨by rfl,?_⟩) hHeld ?_
           rotate_left 1
           ·(intro w hSw;obtain⟨q1,q2,q3⟩:=hSw;go_simp;try with_reducible rfl)
           try simp only[Act.put,zzA,zzB,zzC,zzD,zzE,zzF]
           refine wpAnyL_take (i:=15) (v:=?_) rfl (by kernel_rfl) (by kernel_rfl) (by kernel_rfl) (by kernel_rfl) (fun _ _ _ h=>h) (Or.inl ⟨by rfl,?_⟩) hHeld ?_
           rotate_left 1
           ·(intro w hSw;obtain⟨q1,q2,q3⟩:=hSw;go_simp;try with_reducible rfl)
           try simp only[Act.put,zzA,zzB,zzC,zzD,zzE,zzF]
           refine wpAnyL_take (i:=16) (v:=?_) rfl (by kernel_rfl) (by kernel_rfl) (by kernel_rfl) (by kernel_rfl) (fun _ _ _ h=>h) (Or.inl ⟨by rfl,?_⟩) hHeld ?_
           rotate_left 1
           ·(intro w hSw;obtain⟨q1,q2,q3⟩:=hSw;go_simp;try with_reducible rfl)
           try simp only[Act.put,zzA,zzB,zzC,zzD,zzE,zzF]
           refine wpAnyL_take (i:=17) (v:=?_) rfl (by kernel_rfl) (by kernel_rfl) (by kernel_rfl) (by kernel_rfl) (fun _ _ _ h=>h) (Or.inl ⟨by rfl,?_⟩) hHeld ?_
           rotate_left 1
           ·(intro w hSw;obtain⟨q1,q2,q3⟩:=hSw;go_simp;try with_reducible rfl)
           try simp only[Act.put,zzA,zzB,zzC,zzD,zzE,zzF]
           refine wpAnyL_take (i:=18) (v:=?_) rfl (by kernel_rfl) (by kernel_rfl) (by kernel_rfl) (by kernel_rfl) (fun _ _ _ h=>h) (Or.inl ⟨by rfl,?_⟩) hHeld ?_
           rotate_left 1
           ·(intro w hSw;obtain⟨q1,q2,q3⟩:=hSw;go_simp;try with_reducible rfl)
           try simp only[Act.put,zzA,zzB,zzC,zzD,zzE,zzF]
           refine wpAnyL_take (i:=19) (v:=?_) rfl (by kernel_rfl) (by kernel_rfl) (by kernel_rfl) (by kernel_rfl) (fun _ _ _ h=>h) (Or.inl ⟨by rfl,?_⟩) hHeld ?_
           rotate_left 1
           ·(intro w hSw;obtain⟨q1,q2,q3⟩:=hSw;go_simp;try with_reducible rfl)
           try simp only[Act.put,zzA,zzB,zzC,zzD,zzE,zzF]
           refine wpAnyL_take (i:=20) (v:=?_) rfl (by kernel_rfl) (by kernel_rfl) (by kernel_rfl) (by kernel_rfl) (fun _ _ _ h=>h) (Or.inl ⟨by rfl,?_⟩) hHeld ?_
           rotate_left 1
           ·(intro w hSw;obtain⟨q1,q2,q3⟩:=hSw;go_simp;try with_reducible rfl)
           try simp only[Act.put,zzA,zzB,zzC,zzD,zzE,zzF]
           refine wpAnyL_one (i:=21) (by kernel_rfl) rfl (by kernel_rfl) (fun K hK=>?_)
           clear hHeld
           go_simp
           with_reducible refine(KP2.out).mono ?_
           rintro e w9 ⟨v9,rfl,o9,g9⟩
           obtain⟨p1,p2,p3⟩:=HS3.out.hit (G.trans (G.refl _).drew g9) HUV.out o9
           obtain⟨a9,c9,hv9⟩:=row_form o9
           obtain⟨n9,hn9⟩:∃n9,n9=(insP ke.x ue.ws).length:=⟨_,rfl⟩
           have HS9:Hid ((fun U=>(∀o,U.cell? ⟨b,o,none⟩=[.slice (some ⟨gt,0,none⟩) tv2.length tcap,vh,va][o]?)∧U.cell? ⟨gt,u*3+2,none⟩=some (.slice wa ue.ws.length wc)∧U.cell? ⟨gt,k*3,none⟩=some (I ke.x)) w9):=HC3.out _ (G.trans (G.refl _).drew g9)
           have HZ9:Hid (w9.frozen? ⟨gt,u*3+2,none⟩=false):=own_frozen (HS3.out.rv.G (G.trans (G.refl _).drew g9)).rt
           rw[←hn9] at hv9
           subst hv9
           have HP9:=hide (And.intro p1 (And.intro p2 p3))
           clear hn9 o9 g9 p1 p2 p3
           refine hK.out _ _ (HS9.out) (fun hHeld=>?_)
           clear hK K
           try simp only[Act.put,zzA,zzB,zzC,zzD,zzE,zzF]
           refine wpAnyL_take2 23 (i:=22) (v:=?_) rfl (by kernel_rfl) (by kernel_rfl) (by kernel_rfl) (by kernel_rfl) (fun _ _ _ h=>h) (Or.inl ⟨by rfl,?_⟩) hHeld ?_
           rotate_left 1
           ·(intro w hSw;obtain⟨q1,q2,q3⟩:=hSw;go_simp;try with_reducible rfl)
           try simp only[Act.put,zzA,zzB,zzC,zzD,zzE,zzF]
           refine wpAnyL_take (i:=23) (v:=?_) rfl (by kernel_rfl) (by kernel_rfl) (by kernel_rfl) (by kernel_rfl) (fun _ _ _ h=>h) (Or.inl ⟨by rfl,?_⟩) hHeld ?_
           rotate_left 1
           ·(intro w hSw;obtain⟨q1,q2,q3⟩:=hSw;go_simp;try with_reducible rfl)
           try simp only[Act.put,zzA,zzB,zzC,zzD,zzE,zzF]
           refine wpAnyL_last (by kernel_rfl) rfl (by kernel_rfl) (fun K hK=>?_)
           clear hHeld
           have hc7:=HS9.out.2.1
           have hz7:=HZ9.out
           go_simp
           refine hK.out _ _ ?_
           clear hK K
           refine NoPanic.normal ?_
           go_wp2_with fail
           exact⟨⟨j+1,_,_,HLJ.out,by rw[HWJ.out];exact rl1 j,by rw[HSN.out];exact HP9.out.1,own_chg HY3.out HP9.out.2.1 HYD.out,fun k hk hd=>by
            rcases hd with hd|hd
            ·exact HYD.out k hk hd
            ·have h8:=HP9.out.2.2 k hd
             have h9:=own_lt HY3.out hk
             omega⟩,by rw[HWJ.out];exact ms_end HLJ.out⟩
          ·rw[if_neg hws] at hsn
           have HSN:=hide hsn
           have hwl0:¬ue.ws.length=0:=fun e=>hws (List.eq_nil_of_length_eq_zero e)
           have d2:decide (ue.ws.length=0)=false:=by simp[hwl0]
           have d3:((ue.ws.length:Int)==0)=false:=by simp;omega
           have HY3:=HYR
           have HS3:=HSX
           clear hj hlj hy hwb hidX hXl hte htx htX ht1 ht2 ht3 ht4 hux huv kc hgb hrw hul hwj hs2 hyr hyd hR hsn hwl hll hXO hk2 hk2x hkv9 kc2 hgb2 hkl2 hws hle
           go_wp2_with (first|(go_at_call 22;with_reducible refine(KPL.out).mono ?_;rintro e w' ⟨rfl,rfl⟩)|fail)
           have HG3:Hid (G w' w'):=G.refl _
           have KP2:=hide (put_r w'.drew 0 (.slice wa ue.ws.length wc) ue.ws ke.x ((HS3.out.G (G.refl w').drew).rv.rw_ _ (List.mem_of_getElem? HUV.out)) HUP.out.1 (bd1 HUP.out.2 HLJ.out HWL.out HLL.out.2.1 HLL.out.2.2))
           have HC3:Hid (∀U,G w' U→(fun U=>(∀o,U.cell? ⟨b,o,none⟩=[.slice (some ⟨gt,0,none⟩) tv2.length tcap,vh,va][o]?)∧U.cell? ⟨gt,u*3+2,none⟩=some (.slice wa ue.ws.length wc)∧U.cell? ⟨gt,k*3,none⟩=some (I ke.x)) U):=fun U hU=>HCS.out U (HG3.out.trans hU)
           refine wp_region_noPanic ?_
           refine wp_region_L (S:=(fun U=>(∀o,U.cell? ⟨b,o,none⟩=[.slice (some ⟨gt,0,none⟩) tv2.length tcap,vh,va][o]?)∧U.cell? ⟨gt,u*3+2,none⟩=some (.slice wa ue.ws.length wc)∧U.cell? ⟨gt,k*3,none⟩=some (I ke.x))) 24 (by kernel_rfl) (HC3.out _ (G.refl _).drew) (fun hHeld=>?_)
           refine wpAnyL_take (i:=0) (v:=?_) rfl (by kernel_rfl) (by kernel_rfl) (by kernel_rfl) (by kernel_rfl) (fun _ _ _ h=>h) (Or.inl ⟨by rfl,?_⟩) hHeld ?_
           rotate_left 1
           ·(intro w hSw;obtain⟨q1,q2,q3⟩:=hSw;go_simp;try with_reducible rfl)
           try simp only[Act.put,zzA,zzB,zzD,zzE,zzF]
           refine wpAnyL_take (i:=1) (v:=?_) rfl (by kernel_rfl) (by kernel_rfl) (by kernel_rfl) (by kernel_rfl) (fun _ _ _ h=>h) (Or.inl ⟨by rfl,?_⟩) hHeld ?_
           rotate_left 1
           ·(intro w hSw;obtain⟨q1,q2,q3⟩:=hSw;go_simp;try with_reducible rfl)
           try simp only[Act.put,zzA,zzB,zzC,zzD,zzE,zzF]
           refine wpAnyL_take (i:=2) (v:=?_) rfl (by kernel_rfl) (by kernel_rfl) (by kernel_rfl) (by kernel_rfl) (fun _ _ _ h=>h) (Or.inl ⟨by rfl,?_⟩) hHeld ?_
           rotate_left 1
           ·(intro w hSw;obtain⟨q1,q2,q3⟩:=hSw;go_simp;try with_reducible rfl)
           try simp only[Act.put,zzA,zzB,zzC,zzD,zzE,zzF]
           refine wpAnyL_take (i:=3) (v:=?_) rfl (by kernel_rfl) (by kernel_rfl) (by kernel_rfl) (by kernel_rfl) (fun _ _ _ h=>h) (Or.inl ⟨by rfl,?_⟩) hHeld ?_
           rotate_left 1
           ·(intro w hSw;obtain⟨q1,q2,q3⟩:=hSw;go_simp;try with_reducible rfl)
           try simp only[Act.put,zzA,zzB,zzC,zzD,zzE,zzF]
           refine wpAnyL_take (i:=4) (v:=?_) rfl (by kernel_rfl) (by kernel_rfl) (by kernel_rfl) (by kernel_rfl) (fun _ _ _ h=>h) (Or.inl ⟨by rfl,?_⟩) hHeld ?_
           rotate_left 1
           ·(intro w hSw;obtain⟨q1,q2,q3⟩:=hSw;go_simp;try with_reducible rfl)
           try simp only[Act.put,zzA,zzB,zzC,zzD,zzE,zzF]
           refine wpAnyL_take (i:=5) (v:=?_) rfl (by kernel_rfl) (by kernel_rfl) (by kernel_rfl) (by kernel_rfl) (fun _ _ _ h=>h) (Or.inl ⟨by rfl,?_⟩) hHeld ?_
           rotate_left 1
           ·(intro w hSw;obtain⟨q1,q2,q3⟩:=hSw;go_simp;try with_reducible rfl)
           try simp only[Act.put,zzA,zzB,zzC,zzD,zzE,zzF]
           refine wpAnyL_take (i:=6) (v:=?_) rfl (by kernel_rfl) (by kernel_rfl) (by kernel_rfl) (by kernel_rfl) (fun _ _ _ h=>h) (Or.inl ⟨by rfl,?_⟩) hHeld ?_
           rotate_left 1
           ·(intro w hSw;obtain⟨q1,q2,q3⟩:=hSw;go_simp;try with_reducible rfl)
           try simp only[Act.put,zzA,zzB,zzC,zzD,zzE,zzF]
           refine wpAnyL_take (i:=7) (v:=?_) rfl (by kernel_rfl) (by kernel_rfl) (by kernel_rfl) (by kernel_rfl) (fun _ _ _ h=>h) (Or.inl ⟨by rfl,?_⟩) hHeld ?_
           rotate_left 1
           ·(intro w hSw;obtain⟨q1,q2,q3⟩:=hSw;go_simp;try with_reducible rfl)
           try simp only[Act.put,zzA,zzB,zzC,zzD,zzE,zzF]
           refine wpAnyL_take (i:=8) (v:=?_) rfl (by kernel_rfl) (by kernel_rfl) (by kernel_rfl) (by kernel_rfl) (fun _ _ _ h=>h) (Or.inl ⟨by rfl,?_⟩) hHeld ?_
           rotate_left 1
           ·(intro w hSw;obtain⟨q1,q2,q3⟩:=hSw;go_simp;try with_reducible rfl)
           try simp only[Act.put,zzA,zzB,zzC,zzD,zzE,zzF]
           refine wpAnyL_take (i:=9) (v:=?_) rfl (by kernel_rfl) (by kernel_rfl) (by kernel_rfl) (by kernel_rfl) (fun _ _ _ h=>h) (Or.inl ⟨by rfl,?_⟩) hHeld ?_
           rotate_left 1
           ·(intro w hSw;obtain⟨q1,q2,q3⟩:=hSw;go_simp;try with_reducible rfl)
           try simp only[Act.put,zzA,zzB,zzC,zzD,zzE,zzF]
           refine wpAnyL_take (i:=10) (v:=?_) rfl (by kernel_rfl) (by kernel_rfl) (by kernel_rfl) (by kernel_rfl) (fun _ _ _ h=>h) (Or.inl ⟨by rfl,?_⟩) hHeld ?_
           rotate_left 1
           ·(intro w hSw;obtain⟨q1,q2,q3⟩:=hSw;go_simp;try with_reducible rfl)
           try simp only[Act.put,zzA,zzB,zzC,zzD,zzE,zzF]
           refine wpAnyL_take (i:=11) (v:=?_) rfl (by kernel_rfl) (by kernel_rfl) (by kernel_rfl) (by kernel_rfl) (fun _ _ _ h=>h) (Or.inl ⟨by rfl,?_⟩) hHeld ?_
           rotate_left 1
           ·(intro w hSw;obtain⟨q1,q2,q3⟩:=hSw;go_simp;try with_reducible rfl)
           try simp only[Act.put,zzA,zzB,zzC,zzD,zzE,zzF]
           refine wpAnyL_take (i:=12) (v:=?_) rfl (by kernel_rfl) (by kernel_rfl) (by kernel_rfl) (by kernel_rfl) (fun _ _ _ h=>h) (Or.inl ⟨by rfl,?_⟩) hHeld ?_
           rotate_left 1
           ·(intro w hSw;obtain⟨q1,q2,q3⟩:=hSw;go_simp;try with_reducible rfl)
           try simp only[Act.put,zzA,zzB,zzC,zzD,zzE,zzF]
           refine wpAnyL_take (i:=13) (v:=?_) rfl (by kernel_rfl) (by kernel_rfl) (by kernel_rfl) (by kernel_rfl) (fun _ _ _ h=>h) (Or.inl ⟨by rfl,?_⟩) hHeld ?_
           rotate_left 1
           ·(intro w hSw;obtain⟨q1,q2,q3⟩:=hSw;go_simp;try with_reducible rfl)
           try simp only[Act.put,zzA,zzB,zzC,zzD,zzE,zzF]
           refine wpAnyL_take (i:=14) (v:=?_) rfl (by kernel_rfl) (by kernel_rfl) (by kernel_rfl) (by kernel_rfl) (fun _ _ _ h=>h) (Or.inl ⟨by rfl,?_⟩) hHeld ?_
           rotate_left 1
           ·(intro w hSw;obtain⟨q1,q2,q3⟩:=hSw;go_simp;try with_reducible rfl)
           try simp only[Act.put,zzA,zzB,zzC,zzD,zzE,zzF]
           refine wpAnyL_take (i:=15) (v:=?_) rfl (by kernel_rfl) (by kernel_rfl) (by kernel_rfl) (by kernel_rfl) (fun _ _ _ h=>h) (Or.inl ⟨by rfl,?_⟩) hHeld ?_
           rotate_left 1
           ·(intro w hSw;obtain⟨q1,q2,q3⟩:=hSw;go_simp;try with_reducible rfl)
           try simp only[Act.put,zzA,zzB,zzC,zzD,zzE,zzF]
           refine wpAnyL_take (i:=16) (v:=?_) rfl (by kernel_rfl) (by kernel_rfl) (by kernel_rfl) (by kernel_rfl) (fun _ _ _ h=>h) (Or.inl ⟨by rfl,?_⟩) hHeld ?_
           rotate_left 1
           ·(intro w hSw;obtain⟨q1,q2,q3⟩:=hSw;go_simp;try with_reducible rfl)
           try simp only[Act.put,zzA,zzB,zzC,zzD,zzE,zzF]
           refine wpAnyL_take (i:=17) (v:=?_) rfl (by kernel_rfl) (by kernel_rfl) (by kernel_rfl) (by kernel_rfl) (fun _ _ _ h=>h) (Or.inl ⟨by rfl,?_⟩) hHeld ?_
           rotate_left 1
           ·(intro w hSw;obtain⟨q1,q2,q3⟩:=hSw;go_simp;try with_reducible rfl)
           try simp only[Act.put,zzA,zzB,zzC,zzD,zzE,zzF]
           refine wpAnyL_take (i:=18) (v:=?_) rfl (by kernel_rfl) (by kernel_rfl) (by kernel_rfl) (by kernel_rfl) (fun _ _ _ h=>h) (Or.inl ⟨by rfl,?_⟩) hHeld ?_
           rotate_left 1
           ·(intro w hSw;obtain⟨q1,q2,q3⟩:=hSw;go_simp;try with_reducible rfl)
           try simp only[Act.put,zzA,zzB,zzC,zzD,zzE,zzF]
           refine wpAnyL_take (i:=19) (v:=?_) rfl (by kernel_rfl) (by kernel_rfl) (by kernel_rfl) (by kernel_rfl) (fun _ _ _ h=>h) (Or.inl ⟨by rfl,?_⟩) hHeld ?_
           rotate_left 1
           ·(intro w hSw;obtain⟨q1,q2,q3⟩:=hSw;go_simp;try with_reducible rfl)
           try simp only[Act.put,zzA,zzB,zzC,zzD,zzE,zzF]
           refine wpAnyL_take (i:=20) (v:=?_) rfl (by kernel_rfl) (by kernel_rfl) (by kernel_rfl) (by kernel_rfl) (fun _ _ _ h=>h) (Or.inl ⟨by rfl,?_⟩) hHeld ?_
           rotate_left 1
           ·(intro w hSw;obtain⟨q1,q2,q3⟩:=hSw;go_simp;try with_reducible rfl)
           try simp only[Act.put,zzA,zzB,zzC,zzD,zzE,zzF]
           refine wpAnyL_one (i:=21) (by kernel_rfl) rfl (by kernel_rfl) (fun K hK=>?_)
           clear hHeld
           go_simp
           with_reducible refine(KP2.out).mono ?_
           rintro e w9 ⟨v9,rfl,o9,g9⟩
           obtain⟨p1,p2,p3⟩:=HS3.out.hit (G.trans (G.refl _).drew g9) HUV.out o9
           obtain⟨a9,c9,hv9⟩:=row_form o9
           obtain⟨n9,hn9⟩:∃n9,n9=(insP ke.x ue.ws).length:=⟨_,rfl⟩
           have HS9:Hid ((fun U=>(∀o,U.cell? ⟨b,o,none⟩=[.slice (some ⟨gt,0,none⟩) tv2.length tcap,vh,va][o]?)∧U.cell? ⟨gt,u*3+2,none⟩=some (.slice wa ue.ws.length wc)∧U.cell? ⟨gt,k*3,none⟩=some (I ke.x)) w9):=HC3.out _ (G.trans (G.refl _).drew g9)
           have HZ9:Hid (w9.frozen? ⟨gt,u*3+2,none⟩=false):=own_frozen (HS3.out.rv.G (G.trans (G.refl _).drew g9)).rt
           rw[←hn9] at hv9
           subst hv9
           have HP9:=hide (And.intro p1 (And.intro p2 p3))
           clear hn9 o9 g9 p1 p2 p3
           refine hK.out _ _ (HS9.out) (fun hHeld=>?_)
           clear hK K
           try simp only[Act.put,zzA,zzB,zzC,zzD,zzE,zzF]
           refine wpAnyL_take2 23 (i:=22) (v:=?_) rfl (by kernel_rfl) (by kernel_rfl) (by kernel_rfl) (by kernel_rfl) (fun _ _ _ h=>h) (Or.inl ⟨by rfl,?_⟩) hHeld ?_
           rotate_left 1
           ·(intro w hSw;obtain⟨q1,q2,q3⟩:=hSw;go_simp;try with_reducible rfl)
           try simp only[Act.put,zzA,zzB,zzC,zzD,zzE,zzF]
           refine wpAnyL_take (i:=23) (v:=?_) rfl (by kernel_rfl) (by kernel_rfl) (by kernel_rfl) (by kernel_rfl) (fun _ _ _ h=>h) (Or.inl ⟨by rfl,?_⟩) hHeld ?_
           rotate_left 1
           ·(intro w hSw;obtain⟨q1,q2,q3⟩:=hSw;go_simp;try with_reducible rfl)
           try simp only[Act.put,zzA,zzB,zzC,zzD,zzE,zzF]
           refine wpAnyL_last (by kernel_rfl) rfl (by kernel_rfl) (fun K hK=>?_)
           clear hHeld
           have hc7:=HS9.out.2.1
           have hz7:=HZ9.out
           go_simp
           refine hK.out _ _ ?_
           clear hK K
           refine NoPanic.normal ?_
           go_wp2_with fail
           exact⟨⟨j+1,_,_,HLJ.out,by rw[HWJ.out];exact rl1 j,by rw[HSN.out];exact HP9.out.1,own_chg HY3.out HP9.out.2.1 HYD.out,fun k hk hd=>by
            rcases hd with hd|hd
            ·exact HYD.out k hk hd
            ·have h8:=HP9.out.2.2 k hd
             have h9:=own_lt HY3.out hk
             omega⟩,by rw[HWJ.out];exact ms_end HLJ.out⟩
        ·have hne:j=way.length:=by omega
         subst hne
         have hjI:¬((way.length:Int)<(way.length:Int)):=by omega
         rw[List.take_length] at hs2
         have HSX:=hide hs2
         clear hj hlj hs2 hyr hyd hwl hll
         go_wp2_with fail
         exact⟨⟨ke.st,_,_,_,tv2,D2,rfl,HNX.out,HSX.out⟩,HMS.out⟩
      ·have hwl:(0:Int)<(ke.ws.length:Int):=by
        have:=List.length_pos_iff.2 hws
        omega
       have hwl2:0<ke.ws.length:=List.length_pos_iff.2 hws
       have hd1:decide (0<ke.ws.length)=true:=by simp[hwl2]
       have HNX:=hide (HJ.out.skip _ _ _ _ HJJ.out hmem h4 hmin (.inr hws))
       clear h2 h3 h4 h5 hS1 hR htl htl2 hkv kc hrw hmem hmin hms hq1 hq2 hq3 hq4 hws
       go_wp2_with (first|(go_at_call 25;with_reducible refine(KQ.out).mono ?_;rintro e w' ⟨rfl,rfl⟩)|fail)
       exact⟨⟨ke.st,TX,OUT,_,tv,D',rfl,HNX.out,HS1.out⟩,HMS.out⟩
end
section
open Go.RowKit
theorem rise_one{α:Type}{R:α→α→Prop}(has:∀a b,R a b→¬R b a):∀(l1 l2:List α),l1.Pairwise R→l2.Pairwise R→(∀a,a∈l1↔a∈l2)→l1=l2
 | [],[],_,_,_=>rfl
 | [],b::l2,_,_,h=>by have:=(h b).2 (by simp);cases this
 | a::l1,[],_,_,h=>by have:=(h a).1 (by simp);cases this
 | a::l1,b::l2,h1,h2,h=>by
  obtain⟨p1,p2⟩:=List.pairwise_cons.1 h1
  obtain⟨q1,q2⟩:=List.pairwise_cons.1 h2
  have hab:a=b:=by
   rcases List.mem_cons.1 ((h a).1 (by simp))with e|e
   ·exact e
   ·rcases List.mem_cons.1 ((h b).2 (by simp))with e2|e2
    ·exact e2.symm
    ·exact absurd (p1 b e2) (has b a (q1 a e))
  subst hab
  have:l1=l2:=rise_one has l1 l2 p2 q2 (fun c=>by
   have hc:=h c
   rw[List.mem_cons,List.mem_cons] at hc
   constructor
   ·intro h3
    rcases hc.1 (.inr h3)with e|e
    ·subst e;exact absurd (p1 c h3) (fun hh=>has c c hh hh)
    ·exact e
   ·intro h3
    rcases hc.2 (.inr h3)with e|e
    ·subst e;exact absurd (q1 c h3) (fun hh=>has c c hh hh)
    ·exact e)
  rw[this]
theorem rise_int{l1 l2:List Int}(h1:l1.Pairwise (·<·))(h2:l2.Pairwise (·<·))(h:∀a,a∈l1↔a∈l2):l1=l2:=rise_one (fun a b h=>by omega) l1 l2 h1 h2 h
section
variable {m m':Ms} {L:List Int} {LR:List Rs} {x:Int} {p:Pm} {r:Rs} {g:Int} {a:Nat}
theorem swp_of(h:Iv m L LR)(hI:Iv m' L LR)(back:∀y q,m'.lv y=some q→∃q',m.lv y=some q')
  (lv:∀y p,m.lv y=some p→∃p',m'.lv y=some p'∧p'.stamp=p.stamp∧∀z,p.wd z=true→p'.wd z=true)
  (new:∀y p p' z,m.lv y=some p→m'.lv y=some p'→p'.wd z=true→p.wd z=false→∃pz pz' r i g,m.lv z=some pz∧m'.lv z=some pz'∧pz.stamp<p.stamp∧pz'.hurt=false∧(m'.qs r)[i]?=some (z,g)∧inW (m'.hl r) (m'.qs r) z g i y):Swp m m':=by
 refine⟨lv,h.st,hI.qn,fun x p hp=>(h.lv x p hp).s1,fun r i x g y hq hw=>?_,hI.jw,fun r i x g r' i' g' h1 h2=>?_,new⟩
 ·obtain⟨-,q,hq2⟩:=hI.way (fun j g' hj hj2=>by have:=nodup_at (hI.qn r) hq hj2;omega) hw
  exact back y q hq2
 ·obtain⟨p1,k1,-,-,k4⟩:=(hI.qm r x g).1 (List.mem_of_getElem? h1)
  obtain⟨p2,l1,-,-,l4⟩:=(hI.qm r' x g').1 (List.mem_of_getElem? h2)
  rw[k1] at l1
  cases l1
  rw[←k4,l4]
theorem swp_same(h:Iv m L LR):Swp m m:=swp_of h h (fun y q hq=>⟨q,hq⟩) (fun y p hp=>⟨p,hp,rfl,fun _ hz=>hz⟩) (fun y p p' z h1 h2 h3 h4=>by rw[h1] at h2;cases h2;rw[h3] at h4;cases h4)
theorem swp_grant(h:Iv m L LR)(hp:m.lv x=some p)(hg0:p.goal=0)(hgn:g≠0)(hI:Iv (mGrant m x p r g a) L LR):Swp m (mGrant m x p r g a):=by
 have hnq:=no_req h hp hg0
 have hlv:∀y,y≠x→(mGrant m x p r g a).lv y=m.lv y:=fun y e=>upd_other e
 have hlx:(mGrant m x p r g a).lv x=some {paM m p g ((m.qs r).drop a)with hf:=upd p.hf r g,at_:=r0,goal:=0}:=upd_same _ _ _
 refine swp_of h hI (fun y q hq=>?_) (fun y q hq=>?_) (fun y q q' z k1 k2 k3 k4=>?_)
 ·by_cases e:y=x
  ·subst e;exact⟨p,hp⟩
  ·rw[hlv y e] at hq;exact⟨q,hq⟩
 ·by_cases e:y=x
  ·subst e
   rw[hp] at hq
   cases hq
   exact⟨_,hlx,rfl,fun z hz=>paM_old hz⟩
  ·exact⟨q,by rw[hlv y e];exact hq,rfl,fun _ hz=>hz⟩
 ·by_cases e:y=x
  ·subst e
   rw[hp] at k1
   cases k1
   rw[hlx] at k2
   cases k2
   rcases paM_inv k3 with k5|⟨g',b,l1,l2,l3,l4,l5⟩
   ·rw[k5] at k4;cases k4
   ·have hm:=List.mem_of_mem_drop l1
    have hzy:z≠y:=fun e=>hnq r g' (by rw[←e];exact hm)
    obtain⟨i,hi⟩:=List.mem_iff_getElem?.1 hm
    refine⟨b,b,r,i,g',l2,by rw[hlv z hzy];exact l2,l3,l4,hi,.inl ⟨?_,fun e=>hzy e.symm,?_⟩⟩
    ·rw[mGrant_hl hp,if_pos rfl,upd_same];exact hgn
    ·rw[mGrant_hl hp,if_pos rfl,upd_same];exact l5
  ·rw[hlv y e,k1] at k2
   cases k2
   rw[k3] at k4;cases k4
theorem swp_wait(h:Iv m L LR)(hp:m.lv x=some p)(hg0:p.goal=0)(ha:a≤(m.qs r).length)(hI:Iv (mWait m x p r g a) L LR):Swp m (mWait m x p r g a):=by
 have hnq:=no_req h hp hg0
 have hqr:(mWait m x p r g a).qs r=putQ (m.qs r) a x g:=upd_same _ _ _
 have hhl:=mWait_hl (r:=r) (g:=g) (a:=a) hp
 refine swp_of h hI (fun y q hq=>?_) (fun y q hq=>?_) (fun y q q' z k1 k2 k3 k4=>?_)
 ·by_cases e:y=x
  ·subst e;exact⟨p,hp⟩
  ·obtain⟨b,hb,-⟩:=mWait_of e hq;exact⟨b,hb⟩
 ·by_cases e:y=x
  ·subst e
   rw[hp] at hq
   cases hq
   exact⟨_,mWait_x,rfl,fun z hz=>paM_old hz⟩
  ·refine⟨_,by rw[mWait_y e,hq];rfl,(hitIf_same _ x q).1,(hitIf_same _ x q).2.2.2.2.1⟩
 ·by_cases e:y=x
  ·subst e
   rw[hp] at k1
   cases k1
   rw[mWait_x] at k2
   cases k2
   rcases paM_inv k3 with k5|⟨g',b,l1,l2,l3,l4,l5⟩
   ·rw[k5] at k4;cases k4
   ·have hm:=List.mem_of_mem_drop l1
    have hzy:z≠y:=fun e=>hnq r g' (by rw[←e];exact hm)
    obtain⟨i,hi⟩:=List.mem_iff_getElem?.1 l1
    rw[List.getElem?_drop] at hi
    refine⟨b,b,r,a+i+1,g',l2,?_,l3,l4,?_,.inr ⟨a,g,by omega,?_,l5⟩⟩
    ·rw[mWait_y hzy,l2,Option.map_some,hitIf_neg (fun hh=>by omega)]
    ·rw[hqr,put_at ha,if_neg (by omega),if_neg (by omega),Nat.add_sub_cancel];exact hi
    ·rw[hqr,put_at ha,if_neg (by omega),if_pos rfl]
  ·obtain⟨b,hb,rfl⟩:=mWait_of e k2
   rw[hb] at k1
   cases k1
   rcases(hitIf_same _ x q).2.2.2.2.2.1 z k3 with k5|⟨⟨c1,c2,c3⟩,rfl⟩
   ·rw[k5] at k4;cases k4
   ·refine⟨p,_,r,a,g,hp,mWait_x,c3,c1,?_,?_⟩
    ·rw[hqr,put_at ha,if_neg (by omega),if_pos rfl]
    ·rw[hqr,hhl];exact(inW_put ha).2 c2
theorem TXq.same{tx:List Tx}{lv lv':Int→Option Pm}(h:TXq tx lv)(h1:∀z p,lv z=some p→∃p',lv' z=some p'∧p'.stamp=p.stamp∧p'.wd=p.wd)(h2:∀z p,lv' z=some p→∃p',lv z=some p'):TXq tx lv':=by
 refine⟨h.nd,fun x p hp=>?_,fun e he=>?_⟩
 ·obtain⟨q,hq⟩:=h2 x p hp
  exact h.all x q hq
 ·obtain⟨p,k1,k2,k3,k4⟩:=h.ok e he
  obtain⟨p',l1,l2,l3⟩:=h1 _ p k1
  exact⟨p',l1,by rw[l2];exact k2,k3,fun z=>by rw[l3];exact k4 z⟩
end
end
end Go.Proofs.YtadfaiciolfgjaaGreatDoor
