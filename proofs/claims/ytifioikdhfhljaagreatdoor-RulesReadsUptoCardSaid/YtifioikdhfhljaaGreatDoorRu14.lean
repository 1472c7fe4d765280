/- Rules: all stands as it was. -/
import Derived.Test.YtifioikdhfhljaaGreatDoorRu13
namespace Go.Proofs.YtifioikdhfhljaaGreatDoor
open Go.RowKit

theorem NRow.toRow9{α:Type}{D:Nst α}{R:Rel α}{ty:TypeId}{w:World}{v:Value}{l:List α}(h:NRow D ty w v l)(hs:D.s=R.s)(hr:∀cs x,x∈l→D.r w cs x→R.r w cs x):Row R w v l:=by
  obtain⟨rs,q1,q2,q3⟩:=h
  obtain⟨p,cap,rfl,hc,hn,hx⟩:=q1.toRow
  refine⟨p,cap,by rw[q2],by omega,fun q=>by have:=hn q;omega,fun i x e=>?_⟩
  have hi:i<rs.length:=by rw[q2];exact(List.getElem?_eq_some_iff.1 e).1
  obtain⟨g,o,cs,h1,h2,h3⟩:=hx i _ (List.getElem?_eq_getElem hi)
  refine⟨g,o,cs,h1,hr cs x (List.mem_of_getElem? e) ?_,by rw[←hs];exact h3⟩
  rw[show cs=rs[i].1 from h2]
  exact q3 i _ x (List.getElem?_eq_getElem hi) e
theorem NRow.row9N{ty:TypeId}{w:World}{v:Value}{l:List Nd}(h:NRow dNo ty w v l):Row relN w v l:=h.toRow9 rfl fun _ _ _ ⟨v,e,hs⟩=>⟨v,e,hs.toRow⟩
theorem NRow.row9E{ty:TypeId}{w:World}{v:Value}{l:List Ed}(h:NRow dEo ty w v l):Row relE w v l:=h.toRow9 rfl fun _ _ _ ⟨v,e,hs⟩=>⟨v,e,hs.toRow⟩
set_option maxRecDepth 100000 in
set_option maxHeartbeats 8000000 in
theorem rstays_any(ns:List Nd)(es:List Ed)(sb:Nat)(b0:Option Addr)(d0:Nat)(b1:Option Addr)(d1:Nat)(a3:Option Addr)(c3:Nat)(gn ge':Value)(W:World)(hb:Blk W sb 119 [.slice b0 (ns.length+2) d0,.slice b1 (es.length+2) d1,.slice a3 (ns.length+es.length) c3])(h1:NRow dNo 69 W (.slice b0 (ns.length+2) d0) (ns++ndM))(h2:NRow dEo 72 W (.slice b1 (es.length+2) d1) (es++edM))(h3:NRow dRm 42 W (.slice a3 (ns.length+es.length) c3) ((ns.map fun y=>rooms y.ps)++es.map fun y=>rooms y.ps))(h4:Row relN W gn ns)(h5:Row relE W ge' es)(hs:SmB ns es) :
    Calls Tryz.prog 25 #[ptr sb,.agg #[gn,ge']] W fun e W'=>e=.returned (.bool true)∧G W W':=by
  obtain⟨nn,hnn⟩:∃n,n=ns.length+2:=⟨_,rfl⟩
  obtain⟨en,hen⟩:∃n,n=es.length+2:=⟨_,rfl⟩
  obtain⟨kr,hkr⟩:∃n,n=ns.length+es.length:=⟨_,rfl⟩
  rw[←hnn] at h1 hb
  rw[←hen] at h2 hb
  rw[←hkr] at h3 hb
  obtain⟨kn,hkn⟩:∃kn,kn=ns.length:=⟨_,rfl⟩
  obtain⟨ke,hke⟩:∃ke,ke=es.length:=⟨_,rfl⟩
  obtain⟨kn1,hkn1⟩:∃kn1,kn1=kn+1:=⟨_,rfl⟩
  obtain⟨ke1,hke1⟩:∃ke1,ke1=ke+1:=⟨_,rfl⟩
  have hsn:=hs.n
  have hse:=hs.e
  have HL:Hid (kn=ns.length∧ke=es.length∧kr=kn+ke∧kn≤1048576∧ke≤1048576):=⟨hkn,hke,by omega,by omega,by omega⟩
  have hw3:wrap64 ((kn:Int)+1)=(kn1:Int):=by unfold wrap64;omega
  have hw4:wrap64 ((ke:Int)+1)=(ke1:Int):=by unfold wrap64;omega
  have j1:(kn:Int)<(nn:Int):=by omega
  have j2:(kn1:Int)<(nn:Int):=by omega
  have j3:(ke:Int)<(en:Int):=by omega
  have j4:(ke1:Int)<(en:Int):=by omega
  obtain⟨ga,c1,rfl,hnc,⟨v1,d1',-⟩,-,u1,-⟩:=h1.at (i:=kn) (x:=ndM[0]) (by rw[hkn,List.getElem?_append_right (by simp)];simp[ndM])
  obtain⟨ga',c2,e2,-,⟨v2,d2',-⟩,-,u2,-⟩:=h1.at (i:=kn1) (x:=ndM[1]) (by rw[hkn1,hkn,List.getElem?_append_right (by simp)];simp[ndM])
  injection e2 with e2
  injection e2 with e2
  subst e2
  obtain⟨ge,c3',rfl,hec,⟨v3,d3',-⟩,-,u3,-⟩:=h2.at (i:=ke) (x:=edM[0]) (by rw[hke,List.getElem?_append_right (by simp)];simp[edM])
  obtain⟨ge9,c4,e4,-,⟨v4,d4',-⟩,-,u4,-⟩:=h2.at (i:=ke1) (x:=edM[1]) (by rw[hke1,hke,List.getElem?_append_right (by simp)];simp[edM])
  injection e4 with e4
  injection e4 with e4
  subst e4
  obtain⟨pa,pc,rfl⟩:=h4.form
  obtain⟨qa,qc,rfl⟩:=h5.form
  have t1:=h1.take (m:=kn) (by omega)
  have t2:=h2.take (m:=ke) (by omega)
  rw[hkn,List.take_left' rfl,←hkn] at t1
  rw[hke,List.take_left' rfl,←hke] at t2
  rw[←hkn] at h4⊢
  rw[←hke] at h5⊢
  obtain⟨w2,hw2⟩:∃w,w=W.alloc (.cells #[.slice pa kn pc,.slice qa ke qc] 25):=⟨_,rfl⟩
  obtain⟨B3,hB3⟩:∃b,b=W.heap.size:=⟨_,rfl⟩
  have hgw:G W w2:=by rw[hw2];exact(G.refl W).alloc _
  have hb3:Blk w2 B3 25 [.slice pa kn pc,.slice qa ke qc]:=by rw[hw2,hB3];exact Blk.new W [.slice pa kn pc,.slice qa ke qc] 25
  have HEW:Hid (W.alloc (.cells #[.slice pa kn pc,.slice qa ke qc] 25)=w2):=hw2.symm
  have HE1:Hid (W.heap.size=B3):=hB3.symm
  have x1:w2.cell? ⟨ga,kn*3,none⟩=some (I (-91)):=cell_G ((u1 0 (by decide)).trans (by rw[d1'];rfl)) hgw
  have x2:w2.cell? ⟨ga,kn1*3,none⟩=some (I (-92)):=cell_G ((u2 0 (by decide)).trans (by rw[d2'];rfl)) hgw
  have x3:w2.cell? ⟨ge,ke*5,none⟩=some (I (-91)):=cell_G ((u3 0 (by decide)).trans (by rw[d3'];rfl)) hgw
  have x4:w2.cell? ⟨ge,ke1*5,none⟩=some (I (-92)):=cell_G ((u4 0 (by decide)).trans (by rw[d4'];rfl)) hgw
  have cG:=hb3.cell
  have cS:=(hb.G hgw).cell
  have HSM:=hide hs
  have HR:=hide (And.intro (t1.G hgw) (And.intro (t2.G hgw) (And.intro (h3.G hgw) (And.intro (h4.G hgw) (h5.G hgw)))))
  have HGW:=hide hgw;have HSB:=hide (hb.G hgw);have HB3:=hide hb3
  have HD:Hid (kn≤d0∧ke≤d1):=⟨Nat.le_trans (by rw[hnn,hkn];exact Nat.le_add_right _ _) hnc,Nat.le_trans (by rw[hen,hke];exact Nat.le_add_right _ _) hec⟩
  clear h1 h2 h3 h4 h5 hs hb t1 t2 hnn hen hkr hkn hke hkn1 hke1 hsn hse hnc hec d1' d2' d3' d4' u1 u2 u3 u4 hw2 hB3 hgw hb3
  go_enter Tryz.func25,Tryz.ntmps25
  go_wp2_with (first|(rw[HEW.out];(try rw[HE1.out]);clear HEW)|fail)
  try rw[HEW.out]
  try rw[HE1.out]
  clear cG cS x1 x2 x3 x4 hw3 hw4 j1 j2 j3 j4
  go_loopw [7,8,9] (fun iv _ _ wr=>∃i:Nat,iv=I i∧i≤kr∧G w2 wr) (fun iv _ _ _=>kr-(RowKit.intOf iv).toNat)
  case atStart=>exact⟨0,rfl,Nat.zero_le _,G.refl _⟩
  case round=>
    rename_i wr hout
    obtain⟨i,rfl,hik,hg⟩:=hrel
    have hl:=HL.out
    have cG:=(HB3.out.G hg).cell
    have cS:=(HSB.out.G hg).cell
    by_cases hil:i<kr
    · by_cases hin:i<kn
      · obtain⟨x,hx⟩:∃y,ns[i]?=some y:=⟨_,List.getElem?_eq_getElem (by omega)⟩
        obtain⟨g2,o2,cp2,q'⟩:=(HR.out.2.2.2.1).addr (by omega)
        injection q' with q1' q2' q3'
        subst q1' q3'
        obtain⟨cs2,⟨vp,hcs2,hvp⟩,hr2⟩:=(HR.out.2.2.2.1).at hx
        subst hcs2
        obtain⟨ua,uc,hvf⟩:=hvp.form
        obtain⟨pk,hpk⟩:∃n,n=x.ps.length:=⟨_,rfl⟩
        rw[←hpk] at hvf
        subst hvf
        obtain⟨gr,cs3,ha3,hcap3,⟨v3,hcs3,hv3⟩,-,hcell3,-⟩:=(HR.out.2.2.1.G hg).at (i:=i) (x:=rooms x.ps) (by rw[List.getElem?_append_left (by simp;omega),List.getElem?_map,hx];rfl)
        subst ha3
        rw[hcs3] at hcell3
        have hlr:(rooms x.ps).length=pk+2:=by simp[rooms,hpk]
        obtain⟨gt,tc,hvf⟩:=hv3.slice (by omega)
        obtain⟨tn,htn⟩:∃n,n=(rooms x.ps).length:=⟨_,rfl⟩
        rw[←htn] at hvf
        subst hvf
        obtain⟨pk1,hpk1⟩:∃n,n=pk+1:=⟨_,rfl⟩
        have htc:=hv3.open.2.choose_spec.2.2.1
        have e1:(rooms x.ps)[pk]?=some mk1:=by rw[hpk];simp[rooms]
        have e2:(rooms x.ps)[pk1]?=some mk2:=by rw[hpk1,hpk];simp[rooms]
        have ht:=hv3.take (m:=pk) (by omega)
        rw[hpk,rooms_take9,←hpk] at ht
        have hxp:=HSM.out.p x (List.mem_of_getElem? hx)
        have z1:wr.cell? ⟨gr,i,none⟩=some (.slice (some ⟨gt,0,none⟩) tn tc):=by have:=hcell3 0 (by decide);simpa using this
        have z2:wr.cell? ⟨g2,o2+i*3+2,none⟩=some (.slice ua pk uc):=by have:=rangeAt_G hr2 hg 2 _ rfl;simpa using this
        have KP:=hide (rprops2_any x.ps _ _ wr ht.toRow (hvp.G hg) (by omega))
        have i1:(i:Int)<(kr:Int):=by omega
        have i2:(i:Int)<(kn:Int):=by omega
        skip
        have i4:(pk:Int)<(tn:Int):=by omega
        have i5:(pk1:Int)<(tn:Int):=by omega
        have i6:(pk:Int)≤(tc:Int):=by omega
        have hw1:wrap64 ((tn:Int)-2)=(pk:Int):=by unfold wrap64;omega
        have hv1:IntKind.i64.wrap ((tn:Int)-2)=(pk:Int):=by rw[Go.PlainAid.i64_is];exact hw1
        have hw2:wrap64 ((pk:Int)+1)=(pk1:Int):=by unfold wrap64;omega
        have HW:Hid (wrap64 ((i:Int)+1)=(i:Int)+1):=by show _=_;unfold wrap64;omega
        have H1:=hide hv3;have HEE:=hide (And.intro e1 e2)
        have HIL:=hide hil;have HG:=hide hg
        have HZ:=hide z1
        clear hik hil hx q2' hg hvp hr2 hpk hcap3 hcs3 hcell3 hlr hv3 htn hpk1 htc e1 e2 ht hxp hl
        go_wp2_with fail
        refine KP.out.mono ?_
        rintro e w5 ⟨rfl,hg5⟩
        obtain⟨e1,e2⟩:=HEE.out
        have y1:w5.cell? ⟨gt,pk*5,none⟩=some (.string {data:=#[109,97,114,107,49]}):=(H1.out.G hg5).at e1 0 (by decide)
        have y2:w5.cell? ⟨gt,pk1*5,none⟩=some (.string {data:=#[109,97,114,107,50]}):=(H1.out.G hg5).at e2 0 (by decide)
        have cS5:=(HSB.out.G (HG.out.trans hg5)).cell
        have z15:=cell_G HZ.out hg5
        have HG5:=hide (HG.out.trans hg5)
        clear hg5 KP e1 e2 cS cG z1 z2
        go_wp2_with fail
        exact⟨⟨i+1,by rw[HW.out];exact srl i,HIL.out,HG5.out⟩,by rw[HW.out];exact sms HIL.out⟩
      · obtain⟨j,hj⟩:∃j,j=i-kn:=⟨_,rfl⟩
        have hw6:wrap64 ((i:Int)-(kn:Int))=(j:Int):=by unfold wrap64;omega
        have hv6:IntKind.i64.wrap ((i:Int)-(kn:Int))=(j:Int):=by rw[Go.PlainAid.i64_is];exact hw6
        obtain⟨x,hx⟩:∃y,es[j]?=some y:=⟨_,List.getElem?_eq_getElem (by omega)⟩
        obtain⟨g2,o2,cp2,q'⟩:=(HR.out.2.2.2.2).addr (by omega)
        injection q' with q1' q2' q3'
        subst q1' q3'
        obtain⟨cs2,⟨vp,hcs2,hvp⟩,hr2⟩:=(HR.out.2.2.2.2).at hx
        subst hcs2
        obtain⟨ua,uc,hvf⟩:=hvp.form
        obtain⟨pk,hpk⟩:∃n,n=x.ps.length:=⟨_,rfl⟩
        rw[←hpk] at hvf
        subst hvf
        obtain⟨gr,cs3,ha3,hcap3,⟨v3,hcs3,hv3⟩,-,hcell3,-⟩:=(HR.out.2.2.1.G hg).at (i:=i) (x:=rooms x.ps) (by rw[List.getElem?_append_right (by simp;omega),List.length_map,show i-ns.length=j by omega,List.getElem?_map,hx];rfl)
        subst ha3
        rw[hcs3] at hcell3
        have hlr:(rooms x.ps).length=pk+2:=by simp[rooms,hpk]
        obtain⟨gt,tc,hvf⟩:=hv3.slice (by omega)
        obtain⟨tn,htn⟩:∃n,n=(rooms x.ps).length:=⟨_,rfl⟩
        rw[←htn] at hvf
        subst hvf
        obtain⟨pk1,hpk1⟩:∃n,n=pk+1:=⟨_,rfl⟩
        have htc:=hv3.open.2.choose_spec.2.2.1
        have e1:(rooms x.ps)[pk]?=some mk1:=by rw[hpk];simp[rooms]
        have e2:(rooms x.ps)[pk1]?=some mk2:=by rw[hpk1,hpk];simp[rooms]
        have ht:=hv3.take (m:=pk) (by omega)
        rw[hpk,rooms_take9,←hpk] at ht
        have hxp:=HSM.out.q x (List.mem_of_getElem? hx)
        have z1:wr.cell? ⟨gr,i,none⟩=some (.slice (some ⟨gt,0,none⟩) tn tc):=by have:=hcell3 0 (by decide);simpa using this
        have z2:wr.cell? ⟨g2,o2+j*5+4,none⟩=some (.slice ua pk uc):=by have:=rangeAt_G hr2 hg 4 _ rfl;simpa using this
        have KP:=hide (rprops2_any x.ps _ _ wr ht.toRow (hvp.G hg) (by omega))
        have i1:(i:Int)<(kr:Int):=by omega
        have i2:¬(i:Int)<(kn:Int):=by omega
        have i3:(j:Int)<(ke:Int):=by omega
        have i4:(pk:Int)<(tn:Int):=by omega
        have i5:(pk1:Int)<(tn:Int):=by omega
        have i6:(pk:Int)≤(tc:Int):=by omega
        have hw1:wrap64 ((tn:Int)-2)=(pk:Int):=by unfold wrap64;omega
        have hv1:IntKind.i64.wrap ((tn:Int)-2)=(pk:Int):=by rw[Go.PlainAid.i64_is];exact hw1
        have hw2:wrap64 ((pk:Int)+1)=(pk1:Int):=by unfold wrap64;omega
        have HW:Hid (wrap64 ((i:Int)+1)=(i:Int)+1):=by show _=_;unfold wrap64;omega
        have H1:=hide hv3;have HEE:=hide (And.intro e1 e2)
        have HIL:=hide hil;have HG:=hide hg
        have HZ:=hide z1
        clear hik hil hx q2' hg hvp hr2 hpk hcap3 hcs3 hcell3 hlr hv3 htn hpk1 htc e1 e2 ht hxp hl hj
        go_wp2_with fail
        refine KP.out.mono ?_
        rintro e w5 ⟨rfl,hg5⟩
        obtain⟨e1,e2⟩:=HEE.out
        have y1:w5.cell? ⟨gt,pk*5,none⟩=some (.string {data:=#[109,97,114,107,49]}):=(H1.out.G hg5).at e1 0 (by decide)
        have y2:w5.cell? ⟨gt,pk1*5,none⟩=some (.string {data:=#[109,97,114,107,50]}):=(H1.out.G hg5).at e2 0 (by decide)
        have cS5:=(HSB.out.G (HG.out.trans hg5)).cell
        have z15:=cell_G HZ.out hg5
        have HG5:=hide (HG.out.trans hg5)
        clear hg5 KP e1 e2 cS cG z1 z2
        go_wp2_with fail
        exact⟨⟨i+1,by rw[HW.out];exact srl i,HIL.out,HG5.out⟩,by rw[HW.out];exact sms HIL.out⟩
    · have i1:¬(i:Int)<(kr:Int):=by omega
      have HG:=hide hg
      have hs0:(kn:Int)≤(d0:Int):=by have:=HD.out;omega
      have hs1:(ke:Int)≤(d1:Int):=by have:=HD.out;omega
      have KS:Hid (∀V,G wr V→Calls Tryz.prog 70 #[.agg #[.slice (some ⟨ga,0,none⟩) kn d0,.slice (some ⟨ge,0,none⟩) ke d1],.agg #[.slice pa kn pc,.slice qa ke qc]] V fun e W'=>e=.returned (.bool true)∧G V W'):=fun V hV=>by
        have hr:=HR.out
        have k:=hg.trans hV
        exact rsame_any ns es _ _ _ _ V (hr.1.G k).row9N (hr.2.1.G k).row9E (hr.2.2.2.1.G k) (hr.2.2.2.2.G k) HSM.out
      clear hik hil hg hl
      go_wp2_with fail
      clear cG cS
      refine wp_region_noPanic ?_
      refine wp_region_held_drew (S:=(fun V=>(∀t,V.cell? ⟨sb,t,none⟩=([.slice (some ⟨ga,0,none⟩) nn d0,.slice (some ⟨ge,0,none⟩) en d1,.slice a3 kr c3]:List Value)[t]?)∧(∀t,V.cell? ⟨B3,t,none⟩=([.slice pa kn pc,.slice qa ke qc]:List Value)[t]?))) (by kernel_rfl) (⟨((HSB.out.G HG.out).G (G.refl _).drew).cell,((HB3.out.G HG.out).G (G.refl _).drew).cell⟩) (fun hHeld=>?_)
      refine wpAnyH_take (i:=0) (v:=?_) rfl (by kernel_rfl) (by kernel_rfl) (by kernel_rfl) (fun _ _ _ h=>h) (Or.inl ⟨by rfl,?_⟩) hHeld ?_
      rotate_left 1
      · (intro w hSw;(try dsimp only at hSw);go_simp;try with_reducible rfl)
      try simp only[Act.put,List.getElem_toArray,List.getElem_cons_zero,List.setIfInBounds_toArray,List.set_cons_zero,List.set_cons_succ]
      refine wpAnyH_take (i:=1) (v:=?_) rfl (by kernel_rfl) (by kernel_rfl) (by kernel_rfl) (fun _ _ _ h=>h) (Or.inl ⟨by rfl,?_⟩) hHeld ?_
      rotate_left 1
      · (intro w hSw;(try dsimp only at hSw);go_simp;try with_reducible rfl)
      try simp only[Act.put,List.getElem_toArray,List.getElem_cons_zero,List.getElem_cons_succ,List.setIfInBounds_toArray,List.set_cons_zero,List.set_cons_succ]
      refine wpAnyH_take (i:=2) (v:=?_) rfl (by kernel_rfl) (by kernel_rfl) (by kernel_rfl) (fun _ _ _ h=>h) (Or.inl ⟨by rfl,?_⟩) hHeld ?_
      rotate_left 1
      · (intro w hSw;(try dsimp only at hSw);go_simp;try with_reducible rfl)
      try simp only[Act.put,List.getElem_toArray,List.getElem_cons_zero,List.getElem_cons_succ,List.setIfInBounds_toArray,List.set_cons_zero,List.set_cons_succ]
      refine wpAnyH_take (i:=3) (v:=?_) rfl (by kernel_rfl) (by kernel_rfl) (by kernel_rfl) (fun _ _ _ h=>h) (Or.inl ⟨by rfl,?_⟩) hHeld ?_
      rotate_left 1
      · (intro w hSw;obtain⟨k1,k2⟩:=hSw;go_simp;try with_reducible rfl)
      try simp only[Act.put,List.getElem_toArray,List.getElem_cons_zero,List.getElem_cons_succ,List.setIfInBounds_toArray,List.set_cons_zero,List.set_cons_succ]
      refine wpAnyH_take (i:=4) (v:=?_) rfl (by kernel_rfl) (by kernel_rfl) (by kernel_rfl) (fun _ _ _ h=>h) (Or.inl ⟨by rfl,?_⟩) hHeld ?_
      rotate_left 1
      · (intro w hSw;(try dsimp only at hSw);go_simp;try with_reducible rfl)
      try simp only[Act.put,List.getElem_toArray,List.getElem_cons_zero,List.getElem_cons_succ,List.setIfInBounds_toArray,List.set_cons_zero,List.set_cons_succ]
      refine wpAnyH_take (i:=5) (v:=?_) rfl (by kernel_rfl) (by kernel_rfl) (by kernel_rfl) (fun _ _ _ h=>h) (Or.inl ⟨by rfl,?_⟩) hHeld ?_
      rotate_left 1
      · (intro w hSw;(try dsimp only at hSw);go_simp;try with_reducible rfl)
      try simp only[Act.put,List.getElem_toArray,List.getElem_cons_zero,List.getElem_cons_succ,List.setIfInBounds_toArray,List.set_cons_zero,List.set_cons_succ]
      refine wpAnyH_take (i:=6) (v:=?_) rfl (by kernel_rfl) (by kernel_rfl) (by kernel_rfl) (fun _ _ _ h=>h) (Or.inl ⟨by rfl,?_⟩) hHeld ?_
      rotate_left 1
      · (intro w hSw;(try dsimp only at hSw);go_simp;try with_reducible rfl)
      try simp only[Act.put,List.getElem_toArray,List.getElem_cons_zero,List.getElem_cons_succ,List.setIfInBounds_toArray,List.set_cons_zero,List.set_cons_succ]
      refine wpAnyH_take (i:=7) (v:=?_) rfl (by kernel_rfl) (by kernel_rfl) (by kernel_rfl) (fun _ _ _ h=>h) (Or.inl ⟨by rfl,?_⟩) hHeld ?_
      rotate_left 1
      · (intro w hSw;(try dsimp only at hSw);go_simp;try with_reducible rfl)
      try simp only[Act.put,List.getElem_toArray,List.getElem_cons_zero,List.getElem_cons_succ,List.setIfInBounds_toArray,List.set_cons_zero,List.set_cons_succ]
      refine wpAnyH_take (i:=8) (v:=?_) rfl (by kernel_rfl) (by kernel_rfl) (by kernel_rfl) (fun _ _ _ h=>h) (Or.inl ⟨by rfl,?_⟩) hHeld ?_
      rotate_left 1
      · (intro w hSw;(try dsimp only at hSw);go_simp;try with_reducible rfl)
      try simp only[Act.put,List.getElem_toArray,List.getElem_cons_zero,List.getElem_cons_succ,List.setIfInBounds_toArray,List.set_cons_zero,List.set_cons_succ]
      refine wpAnyH_take (i:=9) (v:=?_) rfl (by kernel_rfl) (by kernel_rfl) (by kernel_rfl) (fun _ _ _ h=>h) (Or.inl ⟨by rfl,?_⟩) hHeld ?_
      rotate_left 1
      · (intro w hSw;obtain⟨k1,k2⟩:=hSw;go_simp;try with_reducible rfl)
      try simp only[Act.put,List.getElem_toArray,List.getElem_cons_zero,List.getElem_cons_succ,List.setIfInBounds_toArray,List.set_cons_zero,List.set_cons_succ]
      refine wpAnyH_take (i:=10) (v:=?_) rfl (by kernel_rfl) (by kernel_rfl) (by kernel_rfl) (fun _ _ _ h=>h) (Or.inl ⟨by rfl,?_⟩) hHeld ?_
      rotate_left 1
      · (intro w hSw;(try dsimp only at hSw);go_simp;try with_reducible rfl)
      try simp only[Act.put,List.getElem_toArray,List.getElem_cons_zero,List.getElem_cons_succ,List.setIfInBounds_toArray,List.set_cons_zero,List.set_cons_succ]
      refine wpAnyH_take (i:=11) (v:=?_) rfl (by kernel_rfl) (by kernel_rfl) (by kernel_rfl) (fun _ _ _ h=>h) (Or.inl ⟨by rfl,?_⟩) hHeld ?_
      rotate_left 1
      · (intro w hSw;(try dsimp only at hSw);go_simp;try with_reducible rfl)
      try simp only[Act.put,List.getElem_toArray,List.getElem_cons_zero,List.getElem_cons_succ,List.setIfInBounds_toArray,List.set_cons_zero,List.set_cons_succ]
      refine wpAnyH_take (i:=12) (v:=?_) rfl (by kernel_rfl) (by kernel_rfl) (by kernel_rfl) (fun _ _ _ h=>h) (Or.inl ⟨by rfl,?_⟩) hHeld ?_
      rotate_left 1
      · (intro w hSw;(try dsimp only at hSw);go_simp;try with_reducible rfl)
      try simp only[Act.put,List.getElem_toArray,List.getElem_cons_zero,List.getElem_cons_succ,List.setIfInBounds_toArray,List.set_cons_zero,List.set_cons_succ]
      refine wpAnyH_take (i:=13) (v:=?_) rfl (by kernel_rfl) (by kernel_rfl) (by kernel_rfl) (fun _ _ _ h=>h) (Or.inl ⟨by rfl,?_⟩) hHeld ?_
      rotate_left 1
      · (intro w hSw;obtain⟨k1,k2⟩:=hSw;go_simp;try with_reducible rfl)
      try simp only[Act.put,List.getElem_toArray,List.getElem_cons_zero,List.getElem_cons_succ,List.setIfInBounds_toArray,List.set_cons_zero,List.set_cons_succ]
      refine wpAnyH_ready (rs:=[14]) (by kernel_rfl) (by simp) (AllReadyH.cons rfl (fun K hK=>?_) AllReadyH.nil)
      clear hHeld
      (try refine(if_pos rfl).mpr ?_)
      go_simp
      refine(KS.out _ ((G.refl _).drew)).mono ?_
      rintro e w5 ⟨rfl,g5'⟩
      have g5:G wr w5:=((G.refl _).drew).trans g5'
      clear g5'
      go_wp2_with fail
      refine hK.out _ _ (⟨((HSB.out.G HG.out).G g5).cell,((HB3.out.G HG.out).G g5).cell⟩) (fun hHeld=>?_)
      clear hK K
      try simp only[Act.put,List.getElem_toArray,List.getElem_cons_zero,List.getElem_cons_succ,List.setIfInBounds_toArray,List.set_cons_zero,List.set_cons_succ]
      refine wpAnyH_take (i:=15) (v:=?_) rfl (by kernel_rfl) (by kernel_rfl) (by kernel_rfl) (fun _ _ _ h=>h) (Or.inl ⟨by rfl,?_⟩) hHeld ?_
      rotate_left 1
      · (intro w hSw;(try dsimp only at hSw);go_simp;try with_reducible rfl)
      try simp only[Act.put,List.getElem_toArray,List.getElem_cons_zero,List.getElem_cons_succ,List.setIfInBounds_toArray,List.set_cons_zero,List.set_cons_succ]
      refine wpAnyH_done (by kernel_rfl) ?_ _
      refine NoPanic.normal ?_
      go_wp2_with fail
      go_ret
      exact⟨rfl,(HGW.out.trans HG.out).trans g5⟩
end Go.Proofs.YtifioikdhfhljaaGreatDoor
