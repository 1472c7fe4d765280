/- Graphs: may it be loaded? (the document) -/
import Derived.Test.YtifioikdhfhljaaGreatDoorSh12
import Derived.Test.YtifioikdhfhljaaGreatDoorSh18
namespace Go.Proofs.YtifioikdhfhljaaGreatDoor
open Go.RowKit
theorem zzA{α:Type _}{l:List α}{i:Nat}(h:i<l.toArray.size):l.toArray[i]=l[i]'h:=rfl
theorem zzB{α:Type _}(a:α)(xs:List α)(h:0<(a::xs).length):(a::xs)[0]=a:=rfl
theorem zzC{α:Type _}(a:α)(xs:List α)(i:Nat)(h:i+1<(a::xs).length):(a::xs)[i+1]=xs[i]'(Nat.lt_of_succ_lt_succ h):=rfl
theorem zzD{α:Type _}(l:List α)(i:Nat)(a:α):l.toArray.setIfInBounds i a=(l.set i a).toArray:=List.setIfInBounds_toArray l i a
theorem zzE{α:Type _}{x:α}{xs:List α}{a:α}:(x::xs).set 0 a=a::xs:=rfl
theorem zzF{α:Type _}{x:α}{xs:List α}{i:Nat}{a:α}:(x::xs).set (i+1) a=x::xs.set i a:=rfl
attribute [local go_sem] bin_geq

/-- The id ahead of place i;0 ahead of the first. -/
def prevI(l:List Int):Nat→Int
  | 0=>0
  | j+1=>l.getD j 0
noncomputable def nodesB(ns:List Nd):Bool:=riseB 0 (ns.map fun x=>x.id)&&ns.all nodeOk
noncomputable def edgesB(ids:List Int)(es:List Ed):Bool:=riseB 0 (es.map fun x=>x.id)&&es.all (edgeOk ids)
theorem mayB_two(ns:List Nd)(es:List Ed):mayB ns es=(nodesB ns&&edgesB (ns.map fun x=>x.id) es):=by
  unfold mayB nodesB edgesB
  cases riseB 0 (ns.map fun x=>x.id)<;>cases riseB 0 (es.map fun x=>x.id)<;>simp
/-- The check from place i on. -/
noncomputable def fromB{α:Type}(id:α→Int)(ok:α→Bool)(l:List α)(i:Nat):Bool:=riseB (prevI (l.map id) i) ((l.map id).drop i)&&(l.drop i).all ok
theorem fromB_step{α:Type}{id:α→Int}{ok:α→Bool}{l:List α}{i:Nat}{x:α}(h:l[i]?=some x):fromB id ok l i=(!decide (id x≤prevI (l.map id) i)&&ok x&&fromB id ok l (i+1)):=by
  obtain⟨hi,hx⟩:=List.getElem?_eq_some_iff.1 h
  have h1:(l.map id)[i]?=some (id x):=by rw[List.getElem?_map,h];rfl
  unfold fromB
  rw[riseB_step h1,List.drop_eq_getElem_cons hi,hx,List.all_cons,show prevI (l.map id) (i+1)=id x by show(l.map id).getD i 0=_;rw[List.getD_eq_getElem?_getD,h1];rfl]
  by_cases hc:id x≤prevI (l.map id) i
  · rw[if_pos hc,decide_eq_true hc];rfl
  · rw[if_neg hc,decide_eq_false hc]
    cases ok x<;>simp
theorem fromB_end{α:Type}{id:α→Int}{ok:α→Bool}{l:List α}{i:Nat}(h:l.length≤i):fromB id ok l i=true:=by
  unfold fromB
  rw[List.drop_of_length_le (by simpa using h),List.drop_of_length_le h]
  cases prevI (l.map id) i<;>rfl
set_option maxRecDepth 100000 in
set_option maxHeartbeats 8000000 in
theorem may_any(ns:List Nd)(es:List Ed)(nv ev:Value)(W:World)(h1:Row relN W nv ns)(h2:Row relE W ev es)(hl:ns.length≤1048576∧es.length≤1048576)(hO:(∀x∈ns,x.ps.length≤1048576∧∀p∈x.ps,p.ok∧p.s.size≤4611686018427387904)∧∀x∈es,x.ps.length≤1048576∧∀p∈x.ps,p.ok∧p.s.size≤4611686018427387904) :
    Calls Tryz.prog 12 #[.agg #[nv,ev]] W fun e W'=>e=.returned (.bool (mayB ns es))∧G W W':=by
  obtain⟨sa,sc,rfl⟩:=h1.form
  obtain⟨ta,tc,rfl⟩:=h2.form
  obtain⟨sn,hsn⟩:∃sn,sn=ns.length:=⟨_,rfl⟩
  obtain⟨tn,htn⟩:∃tn,tn=es.length:=⟨_,rfl⟩
  rw[←hsn] at h1⊢
  rw[←htn] at h2⊢
  obtain⟨bb,hbb⟩:∃bb,bb=mayB ns es:=⟨_,rfl⟩
  rw[←hbb]
  rw[mayB_two] at hbb
  obtain⟨w2,hw2⟩:∃w2,w2=W.alloc (.cells #[.slice sa sn sc,.slice ta tn tc] 25):=⟨_,rfl⟩
  obtain⟨B1,hB1⟩:∃B1,B1=W.heap.size:=⟨_,rfl⟩
  have hgw:G W w2:=by rw[hw2];exact(G.refl W).alloc _
  have hb1:Blk w2 B1 25 [.slice sa sn sc,.slice ta tn tc]:=by rw[hw2,hB1];exact Blk.new W [.slice sa sn sc,.slice ta tn tc] 25
  have HEW:Hid (W.alloc (.cells #[.slice sa sn sc,.slice ta tn tc] 25)=w2):=hw2.symm
  have HE1:Hid (W.heap.size=B1):=hB1.symm
  have HS0:=hide (And.intro (h1.G hgw) (h2.G hgw));have HB1:=hide hb1;have HGW:=hide hgw;have HO:=hide hO
  have HL:Hid (sn=ns.length∧tn=es.length∧sn≤1048576∧tn≤1048576):=⟨hsn,htn,by omega,by omega⟩
  have HBB0:=hide hbb
  have HBB:Hid (nodesB ns=false→bb=false):=fun e=>by rw[HBB0.out,e];rfl
  clear h1 h2 hl hO hsn htn hbb hw2 hB1 hgw hb1
  go_enter Tryz.func12,Tryz.ntmps12
  go_wp2_with fail
  try rw[HEW.out]
  try rw[HE1.out]
  clear HEW HE1
  go_loopw [3,4] (fun iv _ wr=>∃i:Nat,iv=I i∧i≤ns.length∧((i=0∧prevI (ns.map fun y=>y.id) i=0)∨1≤prevI (ns.map fun y=>y.id) i)∧nodesB ns=fromB (fun y=>y.id) nodeOk ns i∧G w2 wr) (fun iv _ _=>ns.length-(RowKit.intOf iv).toNat)
  case atStart=>exact⟨0,rfl,Nat.zero_le _,.inl ⟨rfl,rfl⟩,rfl,G.refl _⟩
  case round=>
    obtain⟨i,rfl,hik,hpr,hfr,hg⟩:=hrel
    have hl:=HL.out
    have kb1:=(HB1.out.G hg).cell
    by_cases hil:i<ns.length
    · obtain⟨x,hx⟩:∃x,ns[i]?=some x:=⟨_,List.getElem?_eq_getElem hil⟩
      obtain⟨g,o,cap,qI⟩:=HS0.out.1.addr (by omega)
      injection qI with q1 q2 q3
      subst q1 q3
      obtain⟨cs,⟨vp,hcs,hvp⟩,hr1⟩:=HS0.out.1.at hx
      subst hcs
      obtain⟨pa,pc,hvf⟩:=hvp.form
      obtain⟨pn,hpn⟩:∃pn,pn=x.ps.length:=⟨_,rfl⟩
      rw[←hpn] at hvf
      subst hvf
      have x1:wr.cell? ⟨g,o+i*3,none⟩=some (I x.id):=rangeAt_G hr1 hg 0 _ rfl
      have x2:wr.cell? ⟨g,o+i*3+1,none⟩=some (.string x.lb):=rangeAt_G hr1 hg 1 _ rfl
      have x3:wr.cell? ⟨g,o+i*3+2,none⟩=some (.slice pa pn pc):=rangeAt_G hr1 hg 2 _ rfl
      have i1:(i:Int)<(sn:Int):=by omega
      have HW:Hid (wrap64 ((i:Int)+1)=(i:Int)+1):=by show _=_;unfold wrap64;omega
      obtain⟨wb,hwb⟩:∃wb,wb=wr.alloc (.cells #[I x.id,.string x.lb,.slice pa pn pc] 69):=⟨_,rfl⟩
      obtain⟨B5,hB5⟩:∃B5,B5=wr.heap.size:=⟨_,rfl⟩
      have HEB:Hid (wr.alloc (.cells #[I x.id,.string x.lb,.slice pa pn pc] 69)=wb):=hwb.symm
      have HE5:Hid (wr.heap.size=B5):=hB5.symm
      have hga:G wr wb:=by rw[hwb];exact(G.refl wr).alloc _
      have HB5:Hid (Blk wb B5 69 [I x.id,.string x.lb,.slice pa pn pc]):=by rw[Hid,hwb,hB5];exact Blk.new wr [I x.id,.string x.lb,.slice pa pn pc] 69
      have HB1W:=hide ((HB1.out.G hg).G hga)
      have hxm:=List.mem_of_getElem? hx
      have hpo:=HO.out.1 x hxm
      have KN:Hid (∀V,G wb V→Calls Tryz.prog 37 #[.string x.lb] V fun e W'=>e=.returned (.bool (nameB x.lb))∧G V W'):=fun V _=>(rnm_any _ V).mono (by rintro e w ⟨h,rfl⟩;exact⟨h,G.refl _⟩)
      have K2:Hid (∀V,G wb V→Calls Tryz.prog 38 #[.slice pa pn pc] V fun e W'=>e=.returned (.bool (x.ps.all fun p=>nameB p.key))∧G V W'):=fun V hV=>(rkeys_any nameB (fun t w _=>rnm_any t w) _ x.ps V (((hvp.G hg).G hga).G hV) (fun p hp=>(hpo.2 p hp).1) (by have:=hpo.1;omega)).mono (by rintro e w ⟨h,rfl⟩;exact⟨h,G.refl _⟩)
      have K3:Hid (∀V,G wb V→Calls Tryz.prog 39 #[.slice pa pn pc] V fun e W'=>e=.returned (.bool (goodB x.ps))∧G V W'):=fun V hV=>rprops_any _ x.ps V (((hvp.G hg).G hga).G hV) (fun p hp=>(hpo.2 p hp).2) (by have:=hpo.1;omega)
      skip
      have HX:=hide hx;have HR:=hide hfr;have HIL:=hide hil;have HGB:=hide ((HGW.out.trans hg).trans hga);have HG2:=hide (hg.trans hga)
      have HPN:Hid (prevI (ns.map fun y=>y.id) (i+1)=x.id):=by
        show(ns.map fun y=>y.id).getD i 0=_
        rw[List.getD_eq_getElem?_getD,List.getElem?_map,hx];rfl
      by_cases ha:x.id<1
      · have a1:decide (x.id<1)=true:=decide_eq_true ha
        have HF:Hid (bb=false):=HBB.out (by
          rw[hfr,fromB_step hx,decide_eq_true (show(fun y:Nd=>y.id) x≤_ from ?_)]
          · rfl
          · show x.id≤_
            rcases hpr with ⟨h0,h1⟩|h1
            · rw[h1];omega
            · omega)
        clear hik hpr hfr hl hil hx q2 hr1 hvp hpn hwb hB5 hga hxm hpo hg
        have HS:Hid (∀V,G wb V→(∀o,V.cell? ⟨B5,o,none⟩=([I x.id,.string x.lb,.slice pa pn pc]:List Value)[o]?)∧(∀o9,V.cell? ⟨B1,o9,none⟩=([.slice (some ⟨g,o,none⟩) sn sc,.slice ta tn tc]:List Value)[o9]?)∧G wb V):=fun V h=>⟨(HB5.out.G h).cell,(HB1W.out.G h).cell,h⟩
        go_wp2_with fail
        rw[HEB.out]
        try rw[HE5.out]
        refine wp_region_noPanic ?_
        refine wp_region_held_drew (S:=(fun V=>(∀o,V.cell? ⟨B5,o,none⟩=([I x.id,.string x.lb,.slice pa pn pc]:List Value)[o]?)∧(∀o9,V.cell? ⟨B1,o9,none⟩=([.slice (some ⟨g,o,none⟩) sn sc,.slice ta tn tc]:List Value)[o9]?)∧G wb V)) (by kernel_rfl) (HS.out _ ((G.refl _).drew)) (fun hHeld=>?_)
        refine wpAnyH_take (i:=0) (v:=?_) rfl (by kernel_rfl) (by kernel_rfl) (by kernel_rfl) (fun _ _ _ h=>h) (Or.inl ⟨by rfl,?_⟩) hHeld ?_
        rotate_left 1
        · (intro w hSw;obtain⟨q1,q2,-⟩:=hSw;go_simp;try with_reducible rfl)
        try simp only[Act.put,zzA,zzB,zzD,zzE,zzF]
        refine wpAnyH_take (i:=1) (v:=?_) rfl (by kernel_rfl) (by kernel_rfl) (by kernel_rfl) (fun _ _ _ h=>h) (Or.inl ⟨by rfl,?_⟩) hHeld ?_
        rotate_left 1
        · (intro w hSw;obtain⟨q1,q2,-⟩:=hSw;go_simp;try with_reducible rfl)
        try simp only[Act.put,zzA,zzB,zzC,zzD,zzE,zzF]
        refine wpAnyH_take (i:=2) (v:=(.bool true)) rfl (by kernel_rfl) (by kernel_rfl) (by kernel_rfl) (fun _ _ _ h=>h) (Or.inl ⟨by rfl,?_⟩) hHeld ?_
        · (intro w hSw;first|(go_simp;done)|(go_simp;exact a1)|(go_simp;simp[a1]))
        try simp only[Act.put,zzA,zzB,zzC,zzD,zzE,zzF]
        refine wpAnyH_take (i:=3) (v:=?_) rfl (by kernel_rfl) (by kernel_rfl) (by kernel_rfl) (fun _ _ _ h=>h) (Or.inl ⟨by rfl,?_⟩) hHeld ?_
        rotate_left 1
        · (intro w hSw;(try dsimp only at hSw);go_simp;try with_reducible rfl)
        try simp only[Act.put,zzA,zzB,zzC,zzD,zzE,zzF]
        refine wpAnyH_take (i:=4) (v:=undef) rfl (by kernel_rfl) (by kernel_rfl) (by kernel_rfl) (fun _ _ _ h=>h) (Or.inr ⟨by rfl,rfl⟩) hHeld ?_
        try simp only[Act.put,zzA,zzB,zzC,zzD,zzE,zzF]
        refine wpAnyH_take (i:=5) (v:=undef) rfl (by kernel_rfl) (by kernel_rfl) (by kernel_rfl) (fun _ _ _ h=>h) (Or.inr ⟨by rfl,rfl⟩) hHeld ?_
        try simp only[Act.put,zzA,zzB,zzC,zzD,zzE,zzF]
        refine wpAnyH_take (i:=6) (v:=undef) rfl (by kernel_rfl) (by kernel_rfl) (by kernel_rfl) (fun _ _ _ h=>h) (Or.inr ⟨by rfl,rfl⟩) hHeld ?_
        try simp only[Act.put,zzA,zzB,zzC,zzD,zzE,zzF]
        refine wpAnyH_take (i:=7) (v:=undef) rfl (by kernel_rfl) (by kernel_rfl) (by kernel_rfl) (fun _ _ _ h=>h) (Or.inr ⟨by rfl,rfl⟩) hHeld ?_
        try simp only[Act.put,zzA,zzB,zzC,zzD,zzE,zzF]
        refine wpAnyH_take (i:=8) (v:=undef) rfl (by kernel_rfl) (by kernel_rfl) (by kernel_rfl) (fun _ _ _ h=>h) (Or.inr ⟨by rfl,rfl⟩) hHeld ?_
        try simp only[Act.put,zzA,zzB,zzC,zzD,zzE,zzF]
        refine wpAnyH_take (i:=9) (v:=undef) rfl (by kernel_rfl) (by kernel_rfl) (by kernel_rfl) (fun _ _ _ h=>h) (Or.inr ⟨by rfl,rfl⟩) hHeld ?_
        try simp only[Act.put,zzA,zzB,zzC,zzD,zzE,zzF]
        refine wpAnyH_take (i:=10) (v:=undef) rfl (by kernel_rfl) (by kernel_rfl) (by kernel_rfl) (fun _ _ _ h=>h) (Or.inr ⟨by rfl,rfl⟩) hHeld ?_
        try simp only[Act.put,zzA,zzB,zzC,zzD,zzE,zzF]
        refine wpAnyH_take (i:=11) (v:=undef) rfl (by kernel_rfl) (by kernel_rfl) (by kernel_rfl) (fun _ _ _ h=>h) (Or.inr ⟨by rfl,rfl⟩) hHeld ?_
        try simp only[Act.put,zzA,zzB,zzC,zzD,zzE,zzF]
        refine wpAnyH_take (i:=12) (v:=undef) rfl (by kernel_rfl) (by kernel_rfl) (by kernel_rfl) (fun _ _ _ h=>h) (Or.inr ⟨by rfl,rfl⟩) hHeld ?_
        try simp only[Act.put,zzA,zzB,zzC,zzD,zzE,zzF]
        refine wpAnyH_take (i:=13) (v:=undef) rfl (by kernel_rfl) (by kernel_rfl) (by kernel_rfl) (fun _ _ _ h=>h) (Or.inr ⟨by rfl,rfl⟩) hHeld ?_
        try simp only[Act.put,zzA,zzB,zzC,zzD,zzE,zzF]
        refine wpAnyH_take (i:=14) (v:=undef) rfl (by kernel_rfl) (by kernel_rfl) (by kernel_rfl) (fun _ _ _ h=>h) (Or.inr ⟨by rfl,rfl⟩) hHeld ?_
        try simp only[Act.put,zzA,zzB,zzC,zzD,zzE,zzF]
        refine wpAnyH_take (i:=15) (v:=undef) rfl (by kernel_rfl) (by kernel_rfl) (by kernel_rfl) (fun _ _ _ h=>h) (Or.inr ⟨by rfl,rfl⟩) hHeld ?_
        try simp only[Act.put,zzA,zzB,zzC,zzD,zzE,zzF]
        refine wpAnyH_take (i:=16) (v:=undef) rfl (by kernel_rfl) (by kernel_rfl) (by kernel_rfl) (fun _ _ _ h=>h) (Or.inr ⟨by rfl,rfl⟩) hHeld ?_
        try simp only[Act.put,zzA,zzB,zzC,zzD,zzE,zzF]
        refine wpAnyH_take (i:=17) (v:=undef) rfl (by kernel_rfl) (by kernel_rfl) (by kernel_rfl) (fun _ _ _ h=>h) (Or.inr ⟨by rfl,rfl⟩) hHeld ?_
        try simp only[Act.put,zzA,zzB,zzC,zzD,zzE,zzF]
        refine wpAnyH_take (i:=18) (v:=?_) rfl (by kernel_rfl) (by kernel_rfl) (by kernel_rfl) (fun _ _ _ h=>h) (Or.inl ⟨by rfl,?_⟩) hHeld ?_
        rotate_left 1
        · (intro w hSw;(try dsimp only at hSw);go_simp;try with_reducible rfl)
        try simp only[Act.put,zzA,zzB,zzC,zzD,zzE,zzF]
        refine wpAnyH_take (i:=19) (v:=?_) rfl (by kernel_rfl) (by kernel_rfl) (by kernel_rfl) (fun _ _ _ h=>h) (Or.inl ⟨by rfl,?_⟩) hHeld ?_
        rotate_left 1
        · (intro w hSw;(try dsimp only at hSw);go_simp;try with_reducible rfl)
        try simp only[Act.put,zzA,zzB,zzC,zzD,zzE,zzF]
        refine wpAnyH_take (i:=20) (v:=undef) rfl (by kernel_rfl) (by kernel_rfl) (by kernel_rfl) (fun _ _ _ h=>h) (Or.inr ⟨by rfl,rfl⟩) hHeld ?_
        try simp only[Act.put,zzA,zzB,zzC,zzD,zzE,zzF]
        refine wpAnyH_take (i:=21) (v:=undef) rfl (by kernel_rfl) (by kernel_rfl) (by kernel_rfl) (fun _ _ _ h=>h) (Or.inr ⟨by rfl,rfl⟩) hHeld ?_
        try simp only[Act.put,zzA,zzB,zzC,zzD,zzE,zzF]
        refine wpAnyH_take (i:=22) (v:=undef) rfl (by kernel_rfl) (by kernel_rfl) (by kernel_rfl) (fun _ _ _ h=>h) (Or.inr ⟨by rfl,rfl⟩) hHeld ?_
        try simp only[Act.put,zzA,zzB,zzC,zzD,zzE,zzF]
        refine wpAnyH_take (i:=23) (v:=undef) rfl (by kernel_rfl) (by kernel_rfl) (by kernel_rfl) (fun _ _ _ h=>h) (Or.inr ⟨by rfl,rfl⟩) hHeld ?_
        try simp only[Act.put,zzA,zzB,zzC,zzD,zzE,zzF]
        refine wpAnyH_take (i:=24) (v:=?_) rfl (by kernel_rfl) (by kernel_rfl) (by kernel_rfl) (fun _ _ _ h=>h) (Or.inl ⟨by rfl,?_⟩) hHeld ?_
        rotate_left 1
        · (intro w hSw;(try dsimp only at hSw);go_simp;try with_reducible rfl)
        try simp only[Act.put,zzA,zzB,zzC,zzD,zzE,zzF]
        refine wpAnyH_take (i:=25) (v:=?_) rfl (by kernel_rfl) (by kernel_rfl) (by kernel_rfl) (fun _ _ _ h=>h) (Or.inl ⟨by rfl,?_⟩) hHeld ?_
        rotate_left 1
        · (intro w hSw;(try dsimp only at hSw);go_simp;try with_reducible rfl)
        try simp only[Act.put,zzA,zzB,zzC,zzD,zzE,zzF]
        refine wpAnyH_take (i:=26) (v:=undef) rfl (by kernel_rfl) (by kernel_rfl) (by kernel_rfl) (fun _ _ _ h=>h) (Or.inr ⟨by rfl,rfl⟩) hHeld ?_
        try simp only[Act.put,zzA,zzB,zzC,zzD,zzE,zzF]
        refine wpAnyH_take (i:=27) (v:=undef) rfl (by kernel_rfl) (by kernel_rfl) (by kernel_rfl) (fun _ _ _ h=>h) (Or.inr ⟨by rfl,rfl⟩) hHeld ?_
        try simp only[Act.put,zzA,zzB,zzC,zzD,zzE,zzF]
        refine wpAnyH_take (i:=28) (v:=undef) rfl (by kernel_rfl) (by kernel_rfl) (by kernel_rfl) (fun _ _ _ h=>h) (Or.inr ⟨by rfl,rfl⟩) hHeld ?_
        try simp only[Act.put,zzA,zzB,zzC,zzD,zzE,zzF]
        refine wpAnyH_take (i:=29) (v:=undef) rfl (by kernel_rfl) (by kernel_rfl) (by kernel_rfl) (fun _ _ _ h=>h) (Or.inr ⟨by rfl,rfl⟩) hHeld ?_
        try simp only[Act.put,zzA,zzB,zzC,zzD,zzE,zzF]
        refine wpAnyH_take (i:=30) (v:=?_) rfl (by kernel_rfl) (by kernel_rfl) (by kernel_rfl) (fun _ _ _ h=>h) (Or.inl ⟨by rfl,?_⟩) hHeld ?_
        rotate_left 1
        · (intro w hSw;(try dsimp only at hSw);go_simp;try with_reducible rfl)
        try simp only[Act.put,zzA,zzB,zzC,zzD,zzE,zzF]
        refine wpAnyH_take (i:=31) (v:=?_) rfl (by kernel_rfl) (by kernel_rfl) (by kernel_rfl) (fun _ _ _ h=>h) (Or.inl ⟨by rfl,?_⟩) hHeld ?_
        rotate_left 1
        · (intro w hSw;(try dsimp only at hSw);go_simp;try with_reducible rfl)
        try simp only[Act.put,zzA,zzB,zzC,zzD,zzE,zzF]
        refine wpAnyH_take (i:=32) (v:=undef) rfl (by kernel_rfl) (by kernel_rfl) (by kernel_rfl) (fun _ _ _ h=>h) (Or.inr ⟨by rfl,rfl⟩) hHeld ?_
        try simp only[Act.put,zzA,zzB,zzC,zzD,zzE,zzF]
        refine wpAnyH_take (i:=33) (v:=undef) rfl (by kernel_rfl) (by kernel_rfl) (by kernel_rfl) (fun _ _ _ h=>h) (Or.inr ⟨by rfl,rfl⟩) hHeld ?_
        try simp only[Act.put,zzA,zzB,zzC,zzD,zzE,zzF]
        refine wpAnyH_take (i:=34) (v:=undef) rfl (by kernel_rfl) (by kernel_rfl) (by kernel_rfl) (fun _ _ _ h=>h) (Or.inr ⟨by rfl,rfl⟩) hHeld ?_
        try simp only[Act.put,zzA,zzB,zzC,zzD,zzE,zzF]
        refine wpAnyH_take (i:=35) (v:=undef) rfl (by kernel_rfl) (by kernel_rfl) (by kernel_rfl) (fun _ _ _ h=>h) (Or.inr ⟨by rfl,rfl⟩) hHeld ?_
        try simp only[Act.put,zzA,zzB,zzC,zzD,zzE,zzF]
        refine wpAnyH_take (i:=36) (v:=?_) rfl (by kernel_rfl) (by kernel_rfl) (by kernel_rfl) (fun _ _ _ h=>h) (Or.inl ⟨by rfl,?_⟩) hHeld ?_
        rotate_left 1
        · (intro w hSw;(try dsimp only at hSw);go_simp;try with_reducible rfl)
        try simp only[Act.put,zzA,zzB,zzC,zzD,zzE,zzF]
        refine wpAnyH_done (by kernel_rfl) ?_ _
        refine NoPanic.normal ?_
        go_wp2_with fail
        go_ret
        exact⟨by rw[HF.out]<;>rfl,HGB.out.drew⟩
      · have a1:decide (x.id<1)=false:=decide_eq_false ha
        have HA1:Hid (1≤x.id):=by show _≤_;omega
        by_cases hi0:i=0
        · have n0:decide (0<i)=false:=by simp;omega
          have n1:decide ((0:Int)<(i:Int))=false:=by simp;omega
          have HNL:Hid (¬(x.id≤prevI (ns.map fun y=>y.id) i)):=by subst hi0;show¬x.id≤0;omega
          clear hik hpr hfr hl hil hx q2 hr1 hvp hpn hwb hB5 hga hxm hpo hg hi0 ha
          have hst:=fromB_step (id:=fun y=>y.id) (ok:=nodeOk) HX.out
          rw[show decide ((fun y:Nd=>y.id) x≤prevI (ns.map fun y=>y.id) i)=false from decide_eq_false HNL.out] at hst
          cases hb1:nameB x.lb with
          | false=>
            rw[hb1] at KN
            have HF:Hid (bb=false):=HBB.out (by rw[HR.out,hst];simp[nodeOk,hb1])
            clear hb1 hst
            have HS:Hid (∀V,G wb V→(∀o,V.cell? ⟨B5,o,none⟩=([I x.id,.string x.lb,.slice pa pn pc]:List Value)[o]?)∧(∀o9,V.cell? ⟨B1,o9,none⟩=([.slice (some ⟨g,o,none⟩) sn sc,.slice ta tn tc]:List Value)[o9]?)∧G wb V):=fun V h=>⟨(HB5.out.G h).cell,(HB1W.out.G h).cell,h⟩
            go_wp2_with fail
            rw[HEB.out]
            try rw[HE5.out]
            refine wp_region_noPanic ?_
            refine wp_region_held_drew (S:=(fun V=>(∀o,V.cell? ⟨B5,o,none⟩=([I x.id,.string x.lb,.slice pa pn pc]:List Value)[o]?)∧(∀o9,V.cell? ⟨B1,o9,none⟩=([.slice (some ⟨g,o,none⟩) sn sc,.slice ta tn tc]:List Value)[o9]?)∧G wb V)) (by kernel_rfl) (HS.out _ ((G.refl _).drew)) (fun hHeld=>?_)
            refine wpAnyH_take (i:=0) (v:=?_) rfl (by kernel_rfl) (by kernel_rfl) (by kernel_rfl) (fun _ _ _ h=>h) (Or.inl ⟨by rfl,?_⟩) hHeld ?_
            rotate_left 1
            · (intro w hSw;obtain⟨q1,q2,-⟩:=hSw;go_simp;try with_reducible rfl)
            try simp only[Act.put,zzA,zzB,zzD,zzE,zzF]
            refine wpAnyH_take (i:=1) (v:=?_) rfl (by kernel_rfl) (by kernel_rfl) (by kernel_rfl) (fun _ _ _ h=>h) (Or.inl ⟨by rfl,?_⟩) hHeld ?_
            rotate_left 1
            · (intro w hSw;obtain⟨q1,q2,-⟩:=hSw;go_simp;try with_reducible rfl)
            try simp only[Act.put,zzA,zzB,zzC,zzD,zzE,zzF]
            refine wpAnyH_take (i:=2) (v:=(.bool false)) rfl (by kernel_rfl) (by kernel_rfl) (by kernel_rfl) (fun _ _ _ h=>h) (Or.inl ⟨by rfl,?_⟩) hHeld ?_
            · (intro w hSw;first|(go_simp;done)|(go_simp;exact a1)|(go_simp;simp[a1]))
            try simp only[Act.put,zzA,zzB,zzC,zzD,zzE,zzF]
            refine wpAnyH_take (i:=3) (v:=?_) rfl (by kernel_rfl) (by kernel_rfl) (by kernel_rfl) (fun _ _ _ h=>h) (Or.inl ⟨by rfl,?_⟩) hHeld ?_
            rotate_left 1
            · (intro w hSw;(try dsimp only at hSw);go_simp;try with_reducible rfl)
            try simp only[Act.put,zzA,zzB,zzC,zzD,zzE,zzF]
            refine wpAnyH_take (i:=4) (v:=?_) rfl (by kernel_rfl) (by kernel_rfl) (by kernel_rfl) (fun _ _ _ h=>h) (Or.inl ⟨by rfl,?_⟩) hHeld ?_
            rotate_left 1
            · (intro w hSw;(try dsimp only at hSw);go_simp;try with_reducible rfl)
            try simp only[Act.put,zzA,zzB,zzC,zzD,zzE,zzF]
            refine wpAnyH_take (i:=5) (v:=(.bool false)) rfl (by kernel_rfl) (by kernel_rfl) (by kernel_rfl) (fun _ _ _ h=>h) (Or.inl ⟨by rfl,?_⟩) hHeld ?_
            · (intro w hSw;first|(go_simp;done)|(go_simp;exact n1)|(go_simp;exact n0)|(go_simp;simp[n1,n0]))
            try simp only[Act.put,zzA,zzB,zzC,zzD,zzE,zzF]
            refine wpAnyH_take (i:=6) (v:=?_) rfl (by kernel_rfl) (by kernel_rfl) (by kernel_rfl) (fun _ _ _ h=>h) (Or.inl ⟨by rfl,?_⟩) hHeld ?_
            rotate_left 1
            · (intro w hSw;(try dsimp only at hSw);go_simp;try with_reducible rfl)
            try simp only[Act.put,zzA,zzB,zzC,zzD,zzE,zzF]
            refine wpAnyH_take (i:=7) (v:=undef) rfl (by kernel_rfl) (by kernel_rfl) (by kernel_rfl) (fun _ _ _ h=>h) (Or.inr ⟨by rfl,rfl⟩) hHeld ?_
            try simp only[Act.put,zzA,zzB,zzC,zzD,zzE,zzF]
            refine wpAnyH_take (i:=8) (v:=undef) rfl (by kernel_rfl) (by kernel_rfl) (by kernel_rfl) (fun _ _ _ h=>h) (Or.inr ⟨by rfl,rfl⟩) hHeld ?_
            try simp only[Act.put,zzA,zzB,zzC,zzD,zzE,zzF]
            refine wpAnyH_take (i:=9) (v:=undef) rfl (by kernel_rfl) (by kernel_rfl) (by kernel_rfl) (fun _ _ _ h=>h) (Or.inr ⟨by rfl,rfl⟩) hHeld ?_
            try simp only[Act.put,zzA,zzB,zzC,zzD,zzE,zzF]
            refine wpAnyH_take (i:=10) (v:=undef) rfl (by kernel_rfl) (by kernel_rfl) (by kernel_rfl) (fun _ _ _ h=>h) (Or.inr ⟨by rfl,rfl⟩) hHeld ?_
            try simp only[Act.put,zzA,zzB,zzC,zzD,zzE,zzF]
            refine wpAnyH_take (i:=11) (v:=undef) rfl (by kernel_rfl) (by kernel_rfl) (by kernel_rfl) (fun _ _ _ h=>h) (Or.inr ⟨by rfl,rfl⟩) hHeld ?_
            try simp only[Act.put,zzA,zzB,zzC,zzD,zzE,zzF]
            refine wpAnyH_take (i:=12) (v:=undef) rfl (by kernel_rfl) (by kernel_rfl) (by kernel_rfl) (fun _ _ _ h=>h) (Or.inr ⟨by rfl,rfl⟩) hHeld ?_
            try simp only[Act.put,zzA,zzB,zzC,zzD,zzE,zzF]
            refine wpAnyH_take (i:=13) (v:=undef) rfl (by kernel_rfl) (by kernel_rfl) (by kernel_rfl) (fun _ _ _ h=>h) (Or.inr ⟨by rfl,rfl⟩) hHeld ?_
            try simp only[Act.put,zzA,zzB,zzC,zzD,zzE,zzF]
            refine wpAnyH_take (i:=14) (v:=undef) rfl (by kernel_rfl) (by kernel_rfl) (by kernel_rfl) (fun _ _ _ h=>h) (Or.inr ⟨by rfl,rfl⟩) hHeld ?_
            try simp only[Act.put,zzA,zzB,zzC,zzD,zzE,zzF]
            refine wpAnyH_take (i:=15) (v:=undef) rfl (by kernel_rfl) (by kernel_rfl) (by kernel_rfl) (fun _ _ _ h=>h) (Or.inr ⟨by rfl,rfl⟩) hHeld ?_
            try simp only[Act.put,zzA,zzB,zzC,zzD,zzE,zzF]
            refine wpAnyH_take (i:=16) (v:=undef) rfl (by kernel_rfl) (by kernel_rfl) (by kernel_rfl) (fun _ _ _ h=>h) (Or.inr ⟨by rfl,rfl⟩) hHeld ?_
            try simp only[Act.put,zzA,zzB,zzC,zzD,zzE,zzF]
            refine wpAnyH_take (i:=17) (v:=?_) rfl (by kernel_rfl) (by kernel_rfl) (by kernel_rfl) (fun _ _ _ h=>h) (Or.inl ⟨by rfl,?_⟩) hHeld ?_
            rotate_left 1
            · (intro w hSw;(try dsimp only at hSw);go_simp;try with_reducible rfl)
            try simp only[Act.put,zzA,zzB,zzC,zzD,zzE,zzF]
            refine wpAnyH_take (i:=18) (v:=?_) rfl (by kernel_rfl) (by kernel_rfl) (by kernel_rfl) (fun _ _ _ h=>h) (Or.inl ⟨by rfl,?_⟩) hHeld ?_
            rotate_left 1
            · (intro w hSw;(try dsimp only at hSw);go_simp;try with_reducible rfl)
            try simp only[Act.put,zzA,zzB,zzC,zzD,zzE,zzF]
            refine wpAnyH_take (i:=19) (v:=?_) rfl (by kernel_rfl) (by kernel_rfl) (by kernel_rfl) (fun _ _ _ h=>h) (Or.inl ⟨by rfl,?_⟩) hHeld ?_
            rotate_left 1
            · (intro w hSw;(try dsimp only at hSw);go_simp;try with_reducible rfl)
            try simp only[Act.put,zzA,zzB,zzC,zzD,zzE,zzF]
            refine wpAnyH_take (i:=20) (v:=?_) rfl (by kernel_rfl) (by kernel_rfl) (by kernel_rfl) (fun _ _ _ h=>h) (Or.inl ⟨by rfl,?_⟩) hHeld ?_
            rotate_left 1
            · (intro w hSw;(try dsimp only at hSw);go_simp;try with_reducible rfl)
            try simp only[Act.put,zzA,zzB,zzC,zzD,zzE,zzF]
            refine wpAnyH_take (i:=21) (v:=?_) rfl (by kernel_rfl) (by kernel_rfl) (by kernel_rfl) (fun _ _ _ h=>h) (Or.inl ⟨by rfl,?_⟩) hHeld ?_
            rotate_left 1
            · (intro w hSw;obtain⟨q1,q2,-⟩:=hSw;go_simp;try with_reducible rfl)
            try simp only[Act.put,zzA,zzB,zzC,zzD,zzE,zzF]
            refine wpAnyH_ready (rs:=[22]) (by kernel_rfl) (by simp) (AllReadyH.cons rfl (fun K hK=>?_) AllReadyH.nil)
            clear hHeld
            (try refine(if_pos rfl).mpr ?_)
            go_simp
            refine(KN.out _ ((G.refl wb).drew)).mono ?_
            rintro e w5 ⟨rfl,g5'⟩
            have g5:G wb w5:=((G.refl wb).drew).trans g5'
            clear g5'
            go_wp2_with fail
            refine hK.out _ _ (HS.out w5 g5) (fun hHeld=>?_)
            clear hK K
            try simp only[Act.put,zzA,zzB,zzC,zzD,zzE,zzF]
            refine wpAnyH_take (i:=23) (v:=?_) rfl (by kernel_rfl) (by kernel_rfl) (by kernel_rfl) (fun _ _ _ h=>h) (Or.inl ⟨by rfl,?_⟩) hHeld ?_
            rotate_left 1
            · (intro w hSw;(try dsimp only at hSw);go_simp;try with_reducible rfl)
            try simp only[Act.put,zzA,zzB,zzC,zzD,zzE,zzF]
            refine wpAnyH_take (i:=24) (v:=?_) rfl (by kernel_rfl) (by kernel_rfl) (by kernel_rfl) (fun _ _ _ h=>h) (Or.inl ⟨by rfl,?_⟩) hHeld ?_
            rotate_left 1
            · (intro w hSw;(try dsimp only at hSw);go_simp;try with_reducible rfl)
            try simp only[Act.put,zzA,zzB,zzC,zzD,zzE,zzF]
            refine wpAnyH_take (i:=25) (v:=?_) rfl (by kernel_rfl) (by kernel_rfl) (by kernel_rfl) (fun _ _ _ h=>h) (Or.inl ⟨by rfl,?_⟩) hHeld ?_
            rotate_left 1
            · (intro w hSw;(try dsimp only at hSw);go_simp;try with_reducible rfl)
            try simp only[Act.put,zzA,zzB,zzC,zzD,zzE,zzF]
            refine wpAnyH_take (i:=26) (v:=undef) rfl (by kernel_rfl) (by kernel_rfl) (by kernel_rfl) (fun _ _ _ h=>h) (Or.inr ⟨by rfl,rfl⟩) hHeld ?_
            try simp only[Act.put,zzA,zzB,zzC,zzD,zzE,zzF]
            refine wpAnyH_take (i:=27) (v:=undef) rfl (by kernel_rfl) (by kernel_rfl) (by kernel_rfl) (fun _ _ _ h=>h) (Or.inr ⟨by rfl,rfl⟩) hHeld ?_
            try simp only[Act.put,zzA,zzB,zzC,zzD,zzE,zzF]
            refine wpAnyH_take (i:=28) (v:=undef) rfl (by kernel_rfl) (by kernel_rfl) (by kernel_rfl) (fun _ _ _ h=>h) (Or.inr ⟨by rfl,rfl⟩) hHeld ?_
            try simp only[Act.put,zzA,zzB,zzC,zzD,zzE,zzF]
            refine wpAnyH_take (i:=29) (v:=undef) rfl (by kernel_rfl) (by kernel_rfl) (by kernel_rfl) (fun _ _ _ h=>h) (Or.inr ⟨by rfl,rfl⟩) hHeld ?_
            try simp only[Act.put,zzA,zzB,zzC,zzD,zzE,zzF]
            refine wpAnyH_take (i:=30) (v:=?_) rfl (by kernel_rfl) (by kernel_rfl) (by kernel_rfl) (fun _ _ _ h=>h) (Or.inl ⟨by rfl,?_⟩) hHeld ?_
            rotate_left 1
            · (intro w hSw;(try dsimp only at hSw);go_simp;try with_reducible rfl)
            try simp only[Act.put,zzA,zzB,zzC,zzD,zzE,zzF]
            refine wpAnyH_take (i:=31) (v:=?_) rfl (by kernel_rfl) (by kernel_rfl) (by kernel_rfl) (fun _ _ _ h=>h) (Or.inl ⟨by rfl,?_⟩) hHeld ?_
            rotate_left 1
            · (intro w hSw;(try dsimp only at hSw);go_simp;try with_reducible rfl)
            try simp only[Act.put,zzA,zzB,zzC,zzD,zzE,zzF]
            refine wpAnyH_take (i:=32) (v:=undef) rfl (by kernel_rfl) (by kernel_rfl) (by kernel_rfl) (fun _ _ _ h=>h) (Or.inr ⟨by rfl,rfl⟩) hHeld ?_
            try simp only[Act.put,zzA,zzB,zzC,zzD,zzE,zzF]
            refine wpAnyH_take (i:=33) (v:=undef) rfl (by kernel_rfl) (by kernel_rfl) (by kernel_rfl) (fun _ _ _ h=>h) (Or.inr ⟨by rfl,rfl⟩) hHeld ?_
            try simp only[Act.put,zzA,zzB,zzC,zzD,zzE,zzF]
            refine wpAnyH_take (i:=34) (v:=undef) rfl (by kernel_rfl) (by kernel_rfl) (by kernel_rfl) (fun _ _ _ h=>h) (Or.inr ⟨by rfl,rfl⟩) hHeld ?_
            try simp only[Act.put,zzA,zzB,zzC,zzD,zzE,zzF]
            refine wpAnyH_take (i:=35) (v:=undef) rfl (by kernel_rfl) (by kernel_rfl) (by kernel_rfl) (fun _ _ _ h=>h) (Or.inr ⟨by rfl,rfl⟩) hHeld ?_
            try simp only[Act.put,zzA,zzB,zzC,zzD,zzE,zzF]
            refine wpAnyH_take (i:=36) (v:=?_) rfl (by kernel_rfl) (by kernel_rfl) (by kernel_rfl) (fun _ _ _ h=>h) (Or.inl ⟨by rfl,?_⟩) hHeld ?_
            rotate_left 1
            · (intro w hSw;(try dsimp only at hSw);go_simp;try with_reducible rfl)
            try simp only[Act.put,zzA,zzB,zzC,zzD,zzE,zzF]
            refine wpAnyH_done (by kernel_rfl) ?_ _
            refine NoPanic.normal ?_
            go_wp2_with fail
            go_ret
            exact⟨by rw[HF.out]<;>rfl,HGB.out.trans g5⟩
          | true=>
            rw[hb1] at KN
            cases hb2:(x.ps.all fun p=>nameB p.key)with
            | false=>
              rw[hb2] at K2
              have HF:Hid (bb=false):=HBB.out (by rw[HR.out,hst];simp only[nodeOk,propsOk,hb2,Bool.false_and,Bool.and_false])
              clear hb1 hb2 hst
              have HS:Hid (∀V,G wb V→(∀o,V.cell? ⟨B5,o,none⟩=([I x.id,.string x.lb,.slice pa pn pc]:List Value)[o]?)∧(∀o9,V.cell? ⟨B1,o9,none⟩=([.slice (some ⟨g,o,none⟩) sn sc,.slice ta tn tc]:List Value)[o9]?)∧G wb V):=fun V h=>⟨(HB5.out.G h).cell,(HB1W.out.G h).cell,h⟩
              go_wp2_with fail
              rw[HEB.out]
              try rw[HE5.out]
              refine wp_region_noPanic ?_
              refine wp_region_held_drew (S:=(fun V=>(∀o,V.cell? ⟨B5,o,none⟩=([I x.id,.string x.lb,.slice pa pn pc]:List Value)[o]?)∧(∀o9,V.cell? ⟨B1,o9,none⟩=([.slice (some ⟨g,o,none⟩) sn sc,.slice ta tn tc]:List Value)[o9]?)∧G wb V)) (by kernel_rfl) (HS.out _ ((G.refl _).drew)) (fun hHeld=>?_)
              refine wpAnyH_take (i:=0) (v:=?_) rfl (by kernel_rfl) (by kernel_rfl) (by kernel_rfl) (fun _ _ _ h=>h) (Or.inl ⟨by rfl,?_⟩) hHeld ?_
              rotate_left 1
              · (intro w hSw;obtain⟨q1,q2,-⟩:=hSw;go_simp;try with_reducible rfl)
              try simp only[Act.put,zzA,zzB,zzD,zzE,zzF]
              refine wpAnyH_take (i:=1) (v:=?_) rfl (by kernel_rfl) (by kernel_rfl) (by kernel_rfl) (fun _ _ _ h=>h) (Or.inl ⟨by rfl,?_⟩) hHeld ?_
              rotate_left 1
              · (intro w hSw;obtain⟨q1,q2,-⟩:=hSw;go_simp;try with_reducible rfl)
              try simp only[Act.put,zzA,zzB,zzC,zzD,zzE,zzF]
              refine wpAnyH_take (i:=2) (v:=(.bool false)) rfl (by kernel_rfl) (by kernel_rfl) (by kernel_rfl) (fun _ _ _ h=>h) (Or.inl ⟨by rfl,?_⟩) hHeld ?_
              · (intro w hSw;first|(go_simp;done)|(go_simp;exact a1)|(go_simp;simp[a1]))
              try simp only[Act.put,zzA,zzB,zzC,zzD,zzE,zzF]
              refine wpAnyH_take (i:=3) (v:=?_) rfl (by kernel_rfl) (by kernel_rfl) (by kernel_rfl) (fun _ _ _ h=>h) (Or.inl ⟨by rfl,?_⟩) hHeld ?_
              rotate_left 1
              · (intro w hSw;(try dsimp only at hSw);go_simp;try with_reducible rfl)
              try simp only[Act.put,zzA,zzB,zzC,zzD,zzE,zzF]
              refine wpAnyH_take (i:=4) (v:=?_) rfl (by kernel_rfl) (by kernel_rfl) (by kernel_rfl) (fun _ _ _ h=>h) (Or.inl ⟨by rfl,?_⟩) hHeld ?_
              rotate_left 1
              · (intro w hSw;(try dsimp only at hSw);go_simp;try with_reducible rfl)
              try simp only[Act.put,zzA,zzB,zzC,zzD,zzE,zzF]
              refine wpAnyH_take (i:=5) (v:=(.bool false)) rfl (by kernel_rfl) (by kernel_rfl) (by kernel_rfl) (fun _ _ _ h=>h) (Or.inl ⟨by rfl,?_⟩) hHeld ?_
              · (intro w hSw;first|(go_simp;done)|(go_simp;exact n1)|(go_simp;exact n0)|(go_simp;simp[n1,n0]))
              try simp only[Act.put,zzA,zzB,zzC,zzD,zzE,zzF]
              refine wpAnyH_take (i:=6) (v:=?_) rfl (by kernel_rfl) (by kernel_rfl) (by kernel_rfl) (fun _ _ _ h=>h) (Or.inl ⟨by rfl,?_⟩) hHeld ?_
              rotate_left 1
              · (intro w hSw;(try dsimp only at hSw);go_simp;try with_reducible rfl)
              try simp only[Act.put,zzA,zzB,zzC,zzD,zzE,zzF]
              refine wpAnyH_take (i:=7) (v:=undef) rfl (by kernel_rfl) (by kernel_rfl) (by kernel_rfl) (fun _ _ _ h=>h) (Or.inr ⟨by rfl,rfl⟩) hHeld ?_
              try simp only[Act.put,zzA,zzB,zzC,zzD,zzE,zzF]
              refine wpAnyH_take (i:=8) (v:=undef) rfl (by kernel_rfl) (by kernel_rfl) (by kernel_rfl) (fun _ _ _ h=>h) (Or.inr ⟨by rfl,rfl⟩) hHeld ?_
              try simp only[Act.put,zzA,zzB,zzC,zzD,zzE,zzF]
              refine wpAnyH_take (i:=9) (v:=undef) rfl (by kernel_rfl) (by kernel_rfl) (by kernel_rfl) (fun _ _ _ h=>h) (Or.inr ⟨by rfl,rfl⟩) hHeld ?_
              try simp only[Act.put,zzA,zzB,zzC,zzD,zzE,zzF]
              refine wpAnyH_take (i:=10) (v:=undef) rfl (by kernel_rfl) (by kernel_rfl) (by kernel_rfl) (fun _ _ _ h=>h) (Or.inr ⟨by rfl,rfl⟩) hHeld ?_
              try simp only[Act.put,zzA,zzB,zzC,zzD,zzE,zzF]
              refine wpAnyH_take (i:=11) (v:=undef) rfl (by kernel_rfl) (by kernel_rfl) (by kernel_rfl) (fun _ _ _ h=>h) (Or.inr ⟨by rfl,rfl⟩) hHeld ?_
              try simp only[Act.put,zzA,zzB,zzC,zzD,zzE,zzF]
              refine wpAnyH_take (i:=12) (v:=undef) rfl (by kernel_rfl) (by kernel_rfl) (by kernel_rfl) (fun _ _ _ h=>h) (Or.inr ⟨by rfl,rfl⟩) hHeld ?_
              try simp only[Act.put,zzA,zzB,zzC,zzD,zzE,zzF]
              refine wpAnyH_take (i:=13) (v:=undef) rfl (by kernel_rfl) (by kernel_rfl) (by kernel_rfl) (fun _ _ _ h=>h) (Or.inr ⟨by rfl,rfl⟩) hHeld ?_
              try simp only[Act.put,zzA,zzB,zzC,zzD,zzE,zzF]
              refine wpAnyH_take (i:=14) (v:=undef) rfl (by kernel_rfl) (by kernel_rfl) (by kernel_rfl) (fun _ _ _ h=>h) (Or.inr ⟨by rfl,rfl⟩) hHeld ?_
              try simp only[Act.put,zzA,zzB,zzC,zzD,zzE,zzF]
              refine wpAnyH_take (i:=15) (v:=undef) rfl (by kernel_rfl) (by kernel_rfl) (by kernel_rfl) (fun _ _ _ h=>h) (Or.inr ⟨by rfl,rfl⟩) hHeld ?_
              try simp only[Act.put,zzA,zzB,zzC,zzD,zzE,zzF]
              refine wpAnyH_take (i:=16) (v:=undef) rfl (by kernel_rfl) (by kernel_rfl) (by kernel_rfl) (fun _ _ _ h=>h) (Or.inr ⟨by rfl,rfl⟩) hHeld ?_
              try simp only[Act.put,zzA,zzB,zzC,zzD,zzE,zzF]
              refine wpAnyH_take (i:=17) (v:=?_) rfl (by kernel_rfl) (by kernel_rfl) (by kernel_rfl) (fun _ _ _ h=>h) (Or.inl ⟨by rfl,?_⟩) hHeld ?_
              rotate_left 1
              · (intro w hSw;(try dsimp only at hSw);go_simp;try with_reducible rfl)
              try simp only[Act.put,zzA,zzB,zzC,zzD,zzE,zzF]
              refine wpAnyH_take (i:=18) (v:=?_) rfl (by kernel_rfl) (by kernel_rfl) (by kernel_rfl) (fun _ _ _ h=>h) (Or.inl ⟨by rfl,?_⟩) hHeld ?_
              rotate_left 1
              · (intro w hSw;(try dsimp only at hSw);go_simp;try with_reducible rfl)
              try simp only[Act.put,zzA,zzB,zzC,zzD,zzE,zzF]
              refine wpAnyH_take (i:=19) (v:=?_) rfl (by kernel_rfl) (by kernel_rfl) (by kernel_rfl) (fun _ _ _ h=>h) (Or.inl ⟨by rfl,?_⟩) hHeld ?_
              rotate_left 1
              · (intro w hSw;(try dsimp only at hSw);go_simp;try with_reducible rfl)
              try simp only[Act.put,zzA,zzB,zzC,zzD,zzE,zzF]
              refine wpAnyH_take (i:=20) (v:=?_) rfl (by kernel_rfl) (by kernel_rfl) (by kernel_rfl) (fun _ _ _ h=>h) (Or.inl ⟨by rfl,?_⟩) hHeld ?_
              rotate_left 1
              · (intro w hSw;(try dsimp only at hSw);go_simp;try with_reducible rfl)
              try simp only[Act.put,zzA,zzB,zzC,zzD,zzE,zzF]
              refine wpAnyH_take (i:=21) (v:=?_) rfl (by kernel_rfl) (by kernel_rfl) (by kernel_rfl) (fun _ _ _ h=>h) (Or.inl ⟨by rfl,?_⟩) hHeld ?_
              rotate_left 1
              · (intro w hSw;obtain⟨q1,q2,-⟩:=hSw;go_simp;try with_reducible rfl)
              try simp only[Act.put,zzA,zzB,zzC,zzD,zzE,zzF]
              refine wpAnyH_ready (rs:=[22]) (by kernel_rfl) (by simp) (AllReadyH.cons rfl (fun K hK=>?_) AllReadyH.nil)
              clear hHeld
              (try refine(if_pos rfl).mpr ?_)
              go_simp
              refine(KN.out _ ((G.refl wb).drew)).mono ?_
              rintro e w5 ⟨rfl,g5'⟩
              have g5:G wb w5:=((G.refl wb).drew).trans g5'
              clear g5'
              go_wp2_with fail
              refine hK.out _ _ (HS.out w5 g5) (fun hHeld=>?_)
              clear hK K
              try simp only[Act.put,zzA,zzB,zzC,zzD,zzE,zzF]
              refine wpAnyH_take (i:=23) (v:=?_) rfl (by kernel_rfl) (by kernel_rfl) (by kernel_rfl) (fun _ _ _ h=>h) (Or.inl ⟨by rfl,?_⟩) hHeld ?_
              rotate_left 1
              · (intro w hSw;(try dsimp only at hSw);go_simp;try with_reducible rfl)
              try simp only[Act.put,zzA,zzB,zzC,zzD,zzE,zzF]
              refine wpAnyH_take (i:=24) (v:=?_) rfl (by kernel_rfl) (by kernel_rfl) (by kernel_rfl) (fun _ _ _ h=>h) (Or.inl ⟨by rfl,?_⟩) hHeld ?_
              rotate_left 1
              · (intro w hSw;(try dsimp only at hSw);go_simp;try with_reducible rfl)
              try simp only[Act.put,zzA,zzB,zzC,zzD,zzE,zzF]
              refine wpAnyH_take (i:=25) (v:=?_) rfl (by kernel_rfl) (by kernel_rfl) (by kernel_rfl) (fun _ _ _ h=>h) (Or.inl ⟨by rfl,?_⟩) hHeld ?_
              rotate_left 1
              · (intro w hSw;(try dsimp only at hSw);go_simp;try with_reducible rfl)
              try simp only[Act.put,zzA,zzB,zzC,zzD,zzE,zzF]
              refine wpAnyH_take (i:=26) (v:=?_) rfl (by kernel_rfl) (by kernel_rfl) (by kernel_rfl) (fun _ _ _ h=>h) (Or.inl ⟨by rfl,?_⟩) hHeld ?_
              rotate_left 1
              · (intro w hSw;(try dsimp only at hSw);go_simp;try with_reducible rfl)
              try simp only[Act.put,zzA,zzB,zzC,zzD,zzE,zzF]
              refine wpAnyH_take (i:=27) (v:=?_) rfl (by kernel_rfl) (by kernel_rfl) (by kernel_rfl) (fun _ _ _ h=>h) (Or.inl ⟨by rfl,?_⟩) hHeld ?_
              rotate_left 1
              · (intro w hSw;obtain⟨q1,q2,-⟩:=hSw;go_simp;try with_reducible rfl)
              try simp only[Act.put,zzA,zzB,zzC,zzD,zzE,zzF]
              refine wpAnyH_ready (rs:=[28]) (by kernel_rfl) (by simp) (AllReadyH.cons rfl (fun K hK=>?_) AllReadyH.nil)
              clear hHeld
              (try refine(if_pos rfl).mpr ?_)
              go_simp
              refine(K2.out _ g5).mono ?_
              rintro e w6 ⟨rfl,g6'⟩
              have g6:G wb w6:=g5.trans g6'
              clear g6'
              go_wp2_with fail
              refine hK.out _ _ (HS.out w6 g6) (fun hHeld=>?_)
              clear hK K
              try simp only[Act.put,zzA,zzB,zzC,zzD,zzE,zzF]
              refine wpAnyH_take (i:=29) (v:=?_) rfl (by kernel_rfl) (by kernel_rfl) (by kernel_rfl) (fun _ _ _ h=>h) (Or.inl ⟨by rfl,?_⟩) hHeld ?_
              rotate_left 1
              · (intro w hSw;(try dsimp only at hSw);go_simp;try with_reducible rfl)
              try simp only[Act.put,zzA,zzB,zzC,zzD,zzE,zzF]
              refine wpAnyH_take (i:=30) (v:=?_) rfl (by kernel_rfl) (by kernel_rfl) (by kernel_rfl) (fun _ _ _ h=>h) (Or.inl ⟨by rfl,?_⟩) hHeld ?_
              rotate_left 1
              · (intro w hSw;(try dsimp only at hSw);go_simp;try with_reducible rfl)
              try simp only[Act.put,zzA,zzB,zzC,zzD,zzE,zzF]
              refine wpAnyH_take (i:=31) (v:=?_) rfl (by kernel_rfl) (by kernel_rfl) (by kernel_rfl) (fun _ _ _ h=>h) (Or.inl ⟨by rfl,?_⟩) hHeld ?_
              rotate_left 1
              · (intro w hSw;(try dsimp only at hSw);go_simp;try with_reducible rfl)
              try simp only[Act.put,zzA,zzB,zzC,zzD,zzE,zzF]
              refine wpAnyH_take (i:=32) (v:=undef) rfl (by kernel_rfl) (by kernel_rfl) (by kernel_rfl) (fun _ _ _ h=>h) (Or.inr ⟨by rfl,rfl⟩) hHeld ?_
              try simp only[Act.put,zzA,zzB,zzC,zzD,zzE,zzF]
              refine wpAnyH_take (i:=33) (v:=undef) rfl (by kernel_rfl) (by kernel_rfl) (by kernel_rfl) (fun _ _ _ h=>h) (Or.inr ⟨by rfl,rfl⟩) hHeld ?_
              try simp only[Act.put,zzA,zzB,zzC,zzD,zzE,zzF]
              refine wpAnyH_take (i:=34) (v:=undef) rfl (by kernel_rfl) (by kernel_rfl) (by kernel_rfl) (fun _ _ _ h=>h) (Or.inr ⟨by rfl,rfl⟩) hHeld ?_
              try simp only[Act.put,zzA,zzB,zzC,zzD,zzE,zzF]
              refine wpAnyH_take (i:=35) (v:=undef) rfl (by kernel_rfl) (by kernel_rfl) (by kernel_rfl) (fun _ _ _ h=>h) (Or.inr ⟨by rfl,rfl⟩) hHeld ?_
              try simp only[Act.put,zzA,zzB,zzC,zzD,zzE,zzF]
              refine wpAnyH_take (i:=36) (v:=?_) rfl (by kernel_rfl) (by kernel_rfl) (by kernel_rfl) (fun _ _ _ h=>h) (Or.inl ⟨by rfl,?_⟩) hHeld ?_
              rotate_left 1
              · (intro w hSw;(try dsimp only at hSw);go_simp;try with_reducible rfl)
              try simp only[Act.put,zzA,zzB,zzC,zzD,zzE,zzF]
              refine wpAnyH_done (by kernel_rfl) ?_ _
              refine NoPanic.normal ?_
              go_wp2_with fail
              go_ret
              exact⟨by rw[HF.out]<;>rfl,HGB.out.trans g6⟩
            | true=>
              rw[hb2] at K2
              cases hb3:goodB x.ps with
              | false=>
                rw[hb3] at K3
                have HF:Hid (bb=false):=HBB.out (by rw[HR.out,hst];simp only[nodeOk,propsOk,hb3,Bool.false_and,Bool.and_false])
                clear hb1 hb2 hb3 hst
                have HS:Hid (∀V,G wb V→(∀o,V.cell? ⟨B5,o,none⟩=([I x.id,.string x.lb,.slice pa pn pc]:List Value)[o]?)∧(∀o9,V.cell? ⟨B1,o9,none⟩=([.slice (some ⟨g,o,none⟩) sn sc,.slice ta tn tc]:List Value)[o9]?)∧G wb V):=fun V h=>⟨(HB5.out.G h).cell,(HB1W.out.G h).cell,h⟩
                go_wp2_with fail
                rw[HEB.out]
                try rw[HE5.out]
                refine wp_region_noPanic ?_
                refine wp_region_held_drew (S:=(fun V=>(∀o,V.cell? ⟨B5,o,none⟩=([I x.id,.string x.lb,.slice pa pn pc]:List Value)[o]?)∧(∀o9,V.cell? ⟨B1,o9,none⟩=([.slice (some ⟨g,o,none⟩) sn sc,.slice ta tn tc]:List Value)[o9]?)∧G wb V)) (by kernel_rfl) (HS.out _ ((G.refl _).drew)) (fun hHeld=>?_)
                refine wpAnyH_take (i:=0) (v:=?_) rfl (by kernel_rfl) (by kernel_rfl) (by kernel_rfl) (fun _ _ _ h=>h) (Or.inl ⟨by rfl,?_⟩) hHeld ?_
                rotate_left 1
                · (intro w hSw;obtain⟨q1,q2,-⟩:=hSw;go_simp;try with_reducible rfl)
                try simp only[Act.put,zzA,zzB,zzD,zzE,zzF]
                refine wpAnyH_take (i:=1) (v:=?_) rfl (by kernel_rfl) (by kernel_rfl) (by kernel_rfl) (fun _ _ _ h=>h) (Or.inl ⟨by rfl,?_⟩) hHeld ?_
                rotate_left 1
                · (intro w hSw;obtain⟨q1,q2,-⟩:=hSw;go_simp;try with_reducible rfl)
                try simp only[Act.put,zzA,zzB,zzC,zzD,zzE,zzF]
                refine wpAnyH_take (i:=2) (v:=(.bool false)) rfl (by kernel_rfl) (by kernel_rfl) (by kernel_rfl) (fun _ _ _ h=>h) (Or.inl ⟨by rfl,?_⟩) hHeld ?_
                · (intro w hSw;first|(go_simp;done)|(go_simp;exact a1)|(go_simp;simp[a1]))
                try simp only[Act.put,zzA,zzB,zzC,zzD,zzE,zzF]
                refine wpAnyH_take (i:=3) (v:=?_) rfl (by kernel_rfl) (by kernel_rfl) (by kernel_rfl) (fun _ _ _ h=>h) (Or.inl ⟨by rfl,?_⟩) hHeld ?_
                rotate_left 1
                · (intro w hSw;(try dsimp only at hSw);go_simp;try with_reducible rfl)
                try simp only[Act.put,zzA,zzB,zzC,zzD,zzE,zzF]
                refine wpAnyH_take (i:=4) (v:=?_) rfl (by kernel_rfl) (by kernel_rfl) (by kernel_rfl) (fun _ _ _ h=>h) (Or.inl ⟨by rfl,?_⟩) hHeld ?_
                rotate_left 1
                · (intro w hSw;(try dsimp only at hSw);go_simp;try with_reducible rfl)
                try simp only[Act.put,zzA,zzB,zzC,zzD,zzE,zzF]
                refine wpAnyH_take (i:=5) (v:=(.bool false)) rfl (by kernel_rfl) (by kernel_rfl) (by kernel_rfl) (fun _ _ _ h=>h) (Or.inl ⟨by rfl,?_⟩) hHeld ?_
                · (intro w hSw;first|(go_simp;done)|(go_simp;exact n1)|(go_simp;exact n0)|(go_simp;simp[n1,n0]))
                try simp only[Act.put,zzA,zzB,zzC,zzD,zzE,zzF]
                refine wpAnyH_take (i:=6) (v:=?_) rfl (by kernel_rfl) (by kernel_rfl) (by kernel_rfl) (fun _ _ _ h=>h) (Or.inl ⟨by rfl,?_⟩) hHeld ?_
                rotate_left 1
                · (intro w hSw;(try dsimp only at hSw);go_simp;try with_reducible rfl)
                try simp only[Act.put,zzA,zzB,zzC,zzD,zzE,zzF]
                refine wpAnyH_take (i:=7) (v:=undef) rfl (by kernel_rfl) (by kernel_rfl) (by kernel_rfl) (fun _ _ _ h=>h) (Or.inr ⟨by rfl,rfl⟩) hHeld ?_
                try simp only[Act.put,zzA,zzB,zzC,zzD,zzE,zzF]
                refine wpAnyH_take (i:=8) (v:=undef) rfl (by kernel_rfl) (by kernel_rfl) (by kernel_rfl) (fun _ _ _ h=>h) (Or.inr ⟨by rfl,rfl⟩) hHeld ?_
                try simp only[Act.put,zzA,zzB,zzC,zzD,zzE,zzF]
                refine wpAnyH_take (i:=9) (v:=undef) rfl (by kernel_rfl) (by kernel_rfl) (by kernel_rfl) (fun _ _ _ h=>h) (Or.inr ⟨by rfl,rfl⟩) hHeld ?_
                try simp only[Act.put,zzA,zzB,zzC,zzD,zzE,zzF]
                refine wpAnyH_take (i:=10) (v:=undef) rfl (by kernel_rfl) (by kernel_rfl) (by kernel_rfl) (fun _ _ _ h=>h) (Or.inr ⟨by rfl,rfl⟩) hHeld ?_
                try simp only[Act.put,zzA,zzB,zzC,zzD,zzE,zzF]
                refine wpAnyH_take (i:=11) (v:=undef) rfl (by kernel_rfl) (by kernel_rfl) (by kernel_rfl) (fun _ _ _ h=>h) (Or.inr ⟨by rfl,rfl⟩) hHeld ?_
                try simp only[Act.put,zzA,zzB,zzC,zzD,zzE,zzF]
                refine wpAnyH_take (i:=12) (v:=undef) rfl (by kernel_rfl) (by kernel_rfl) (by kernel_rfl) (fun _ _ _ h=>h) (Or.inr ⟨by rfl,rfl⟩) hHeld ?_
                try simp only[Act.put,zzA,zzB,zzC,zzD,zzE,zzF]
                refine wpAnyH_take (i:=13) (v:=undef) rfl (by kernel_rfl) (by kernel_rfl) (by kernel_rfl) (fun _ _ _ h=>h) (Or.inr ⟨by rfl,rfl⟩) hHeld ?_
                try simp only[Act.put,zzA,zzB,zzC,zzD,zzE,zzF]
                refine wpAnyH_take (i:=14) (v:=undef) rfl (by kernel_rfl) (by kernel_rfl) (by kernel_rfl) (fun _ _ _ h=>h) (Or.inr ⟨by rfl,rfl⟩) hHeld ?_
                try simp only[Act.put,zzA,zzB,zzC,zzD,zzE,zzF]
                refine wpAnyH_take (i:=15) (v:=undef) rfl (by kernel_rfl) (by kernel_rfl) (by kernel_rfl) (fun _ _ _ h=>h) (Or.inr ⟨by rfl,rfl⟩) hHeld ?_
                try simp only[Act.put,zzA,zzB,zzC,zzD,zzE,zzF]
                refine wpAnyH_take (i:=16) (v:=undef) rfl (by kernel_rfl) (by kernel_rfl) (by kernel_rfl) (fun _ _ _ h=>h) (Or.inr ⟨by rfl,rfl⟩) hHeld ?_
                try simp only[Act.put,zzA,zzB,zzC,zzD,zzE,zzF]
                refine wpAnyH_take (i:=17) (v:=?_) rfl (by kernel_rfl) (by kernel_rfl) (by kernel_rfl) (fun _ _ _ h=>h) (Or.inl ⟨by rfl,?_⟩) hHeld ?_
                rotate_left 1
                · (intro w hSw;(try dsimp only at hSw);go_simp;try with_reducible rfl)
                try simp only[Act.put,zzA,zzB,zzC,zzD,zzE,zzF]
                refine wpAnyH_take (i:=18) (v:=?_) rfl (by kernel_rfl) (by kernel_rfl) (by kernel_rfl) (fun _ _ _ h=>h) (Or.inl ⟨by rfl,?_⟩) hHeld ?_
                rotate_left 1
                · (intro w hSw;(try dsimp only at hSw);go_simp;try with_reducible rfl)
                try simp only[Act.put,zzA,zzB,zzC,zzD,zzE,zzF]
                refine wpAnyH_take (i:=19) (v:=?_) rfl (by kernel_rfl) (by kernel_rfl) (by kernel_rfl) (fun _ _ _ h=>h) (Or.inl ⟨by rfl,?_⟩) hHeld ?_
                rotate_left 1
                · (intro w hSw;(try dsimp only at hSw);go_simp;try with_reducible rfl)
                try simp only[Act.put,zzA,zzB,zzC,zzD,zzE,zzF]
                refine wpAnyH_take (i:=20) (v:=?_) rfl (by kernel_rfl) (by kernel_rfl) (by kernel_rfl) (fun _ _ _ h=>h) (Or.inl ⟨by rfl,?_⟩) hHeld ?_
                rotate_left 1
                · (intro w hSw;(try dsimp only at hSw);go_simp;try with_reducible rfl)
                try simp only[Act.put,zzA,zzB,zzC,zzD,zzE,zzF]
                refine wpAnyH_take (i:=21) (v:=?_) rfl (by kernel_rfl) (by kernel_rfl) (by kernel_rfl) (fun _ _ _ h=>h) (Or.inl ⟨by rfl,?_⟩) hHeld ?_
                rotate_left 1
                · (intro w hSw;obtain⟨q1,q2,-⟩:=hSw;go_simp;try with_reducible rfl)
                try simp only[Act.put,zzA,zzB,zzC,zzD,zzE,zzF]
                refine wpAnyH_ready (rs:=[22]) (by kernel_rfl) (by simp) (AllReadyH.cons rfl (fun K hK=>?_) AllReadyH.nil)
                clear hHeld
                (try refine(if_pos rfl).mpr ?_)
                go_simp
                refine(KN.out _ ((G.refl wb).drew)).mono ?_
                rintro e w5 ⟨rfl,g5'⟩
                have g5:G wb w5:=((G.refl wb).drew).trans g5'
                clear g5'
                go_wp2_with fail
                refine hK.out _ _ (HS.out w5 g5) (fun hHeld=>?_)
                clear hK K
                try simp only[Act.put,zzA,zzB,zzC,zzD,zzE,zzF]
                refine wpAnyH_take (i:=23) (v:=?_) rfl (by kernel_rfl) (by kernel_rfl) (by kernel_rfl) (fun _ _ _ h=>h) (Or.inl ⟨by rfl,?_⟩) hHeld ?_
                rotate_left 1
                · (intro w hSw;(try dsimp only at hSw);go_simp;try with_reducible rfl)
                try simp only[Act.put,zzA,zzB,zzC,zzD,zzE,zzF]
                refine wpAnyH_take (i:=24) (v:=?_) rfl (by kernel_rfl) (by kernel_rfl) (by kernel_rfl) (fun _ _ _ h=>h) (Or.inl ⟨by rfl,?_⟩) hHeld ?_
                rotate_left 1
                · (intro w hSw;(try dsimp only at hSw);go_simp;try with_reducible rfl)
                try simp only[Act.put,zzA,zzB,zzC,zzD,zzE,zzF]
                refine wpAnyH_take (i:=25) (v:=?_) rfl (by kernel_rfl) (by kernel_rfl) (by kernel_rfl) (fun _ _ _ h=>h) (Or.inl ⟨by rfl,?_⟩) hHeld ?_
                rotate_left 1
                · (intro w hSw;(try dsimp only at hSw);go_simp;try with_reducible rfl)
                try simp only[Act.put,zzA,zzB,zzC,zzD,zzE,zzF]
                refine wpAnyH_take (i:=26) (v:=?_) rfl (by kernel_rfl) (by kernel_rfl) (by kernel_rfl) (fun _ _ _ h=>h) (Or.inl ⟨by rfl,?_⟩) hHeld ?_
                rotate_left 1
                · (intro w hSw;(try dsimp only at hSw);go_simp;try with_reducible rfl)
                try simp only[Act.put,zzA,zzB,zzC,zzD,zzE,zzF]
                refine wpAnyH_take (i:=27) (v:=?_) rfl (by kernel_rfl) (by kernel_rfl) (by kernel_rfl) (fun _ _ _ h=>h) (Or.inl ⟨by rfl,?_⟩) hHeld ?_
                rotate_left 1
                · (intro w hSw;obtain⟨q1,q2,-⟩:=hSw;go_simp;try with_reducible rfl)
                try simp only[Act.put,zzA,zzB,zzC,zzD,zzE,zzF]
                refine wpAnyH_ready (rs:=[28]) (by kernel_rfl) (by simp) (AllReadyH.cons rfl (fun K hK=>?_) AllReadyH.nil)
                clear hHeld
                (try refine(if_pos rfl).mpr ?_)
                go_simp
                refine(K2.out _ g5).mono ?_
                rintro e w6 ⟨rfl,g6'⟩
                have g6:G wb w6:=g5.trans g6'
                clear g6'
                go_wp2_with fail
                refine hK.out _ _ (HS.out w6 g6) (fun hHeld=>?_)
                clear hK K
                try simp only[Act.put,zzA,zzB,zzC,zzD,zzE,zzF]
                refine wpAnyH_take (i:=29) (v:=?_) rfl (by kernel_rfl) (by kernel_rfl) (by kernel_rfl) (fun _ _ _ h=>h) (Or.inl ⟨by rfl,?_⟩) hHeld ?_
                rotate_left 1
                · (intro w hSw;(try dsimp only at hSw);go_simp;try with_reducible rfl)
                try simp only[Act.put,zzA,zzB,zzC,zzD,zzE,zzF]
                refine wpAnyH_take (i:=30) (v:=?_) rfl (by kernel_rfl) (by kernel_rfl) (by kernel_rfl) (fun _ _ _ h=>h) (Or.inl ⟨by rfl,?_⟩) hHeld ?_
                rotate_left 1
                · (intro w hSw;(try dsimp only at hSw);go_simp;try with_reducible rfl)
                try simp only[Act.put,zzA,zzB,zzC,zzD,zzE,zzF]
                refine wpAnyH_take (i:=31) (v:=?_) rfl (by kernel_rfl) (by kernel_rfl) (by kernel_rfl) (fun _ _ _ h=>h) (Or.inl ⟨by rfl,?_⟩) hHeld ?_
                rotate_left 1
                · (intro w hSw;(try dsimp only at hSw);go_simp;try with_reducible rfl)
                try simp only[Act.put,zzA,zzB,zzC,zzD,zzE,zzF]
                refine wpAnyH_take (i:=32) (v:=?_) rfl (by kernel_rfl) (by kernel_rfl) (by kernel_rfl) (fun _ _ _ h=>h) (Or.inl ⟨by rfl,?_⟩) hHeld ?_
                rotate_left 1
                · (intro w hSw;(try dsimp only at hSw);go_simp;try with_reducible rfl)
                try simp only[Act.put,zzA,zzB,zzC,zzD,zzE,zzF]
                refine wpAnyH_take (i:=33) (v:=?_) rfl (by kernel_rfl) (by kernel_rfl) (by kernel_rfl) (fun _ _ _ h=>h) (Or.inl ⟨by rfl,?_⟩) hHeld ?_
                rotate_left 1
                · (intro w hSw;obtain⟨q1,q2,-⟩:=hSw;go_simp;try with_reducible rfl)
                try simp only[Act.put,zzA,zzB,zzC,zzD,zzE,zzF]
                refine wpAnyH_ready (rs:=[34]) (by kernel_rfl) (by simp) (AllReadyH.cons rfl (fun K hK=>?_) AllReadyH.nil)
                clear hHeld
                (try refine(if_pos rfl).mpr ?_)
                go_simp
                refine(K3.out _ g6).mono ?_
                rintro e w7 ⟨rfl,g7'⟩
                have g7:G wb w7:=g6.trans g7'
                clear g7'
                go_wp2_with fail
                refine hK.out _ _ (HS.out w7 g7) (fun hHeld=>?_)
                clear hK K
                try simp only[Act.put,zzA,zzB,zzC,zzD,zzE,zzF]
                refine wpAnyH_take (i:=35) (v:=?_) rfl (by kernel_rfl) (by kernel_rfl) (by kernel_rfl) (fun _ _ _ h=>h) (Or.inl ⟨by rfl,?_⟩) hHeld ?_
                rotate_left 1
                · (intro w hSw;(try dsimp only at hSw);go_simp;try with_reducible rfl)
                try simp only[Act.put,zzA,zzB,zzC,zzD,zzE,zzF]
                refine wpAnyH_take (i:=36) (v:=?_) rfl (by kernel_rfl) (by kernel_rfl) (by kernel_rfl) (fun _ _ _ h=>h) (Or.inl ⟨by rfl,?_⟩) hHeld ?_
                rotate_left 1
                · (intro w hSw;(try dsimp only at hSw);go_simp;try with_reducible rfl)
                try simp only[Act.put,zzA,zzB,zzC,zzD,zzE,zzF]
                refine wpAnyH_done (by kernel_rfl) ?_ _
                refine NoPanic.normal ?_
                go_wp2_with fail
                go_ret
                exact⟨by rw[HF.out]<;>rfl,HGB.out.trans g7⟩
              | true=>
                rw[hb3] at K3
                have HST:Hid (nodesB ns=fromB (fun y=>y.id) nodeOk ns (i+1)):=by rw[Hid,HR.out,hst];simp[nodeOk,propsOk,hb1,hb2,hb3]
                clear hb1 hb2 hb3 hst
                have HS:Hid (∀V,G wb V→(∀o,V.cell? ⟨B5,o,none⟩=([I x.id,.string x.lb,.slice pa pn pc]:List Value)[o]?)∧(∀o9,V.cell? ⟨B1,o9,none⟩=([.slice (some ⟨g,o,none⟩) sn sc,.slice ta tn tc]:List Value)[o9]?)∧G wb V):=fun V h=>⟨(HB5.out.G h).cell,(HB1W.out.G h).cell,h⟩
                go_wp2_with fail
                rw[HEB.out]
                try rw[HE5.out]
                refine wp_region_noPanic ?_
                refine wp_region_held_drew (S:=(fun V=>(∀o,V.cell? ⟨B5,o,none⟩=([I x.id,.string x.lb,.slice pa pn pc]:List Value)[o]?)∧(∀o9,V.cell? ⟨B1,o9,none⟩=([.slice (some ⟨g,o,none⟩) sn sc,.slice ta tn tc]:List Value)[o9]?)∧G wb V)) (by kernel_rfl) (HS.out _ ((G.refl _).drew)) (fun hHeld=>?_)
                refine wpAnyH_take (i:=0) (v:=?_) rfl (by kernel_rfl) (by kernel_rfl) (by kernel_rfl) (fun _ _ _ h=>h) (Or.inl ⟨by rfl,?_⟩) hHeld ?_
                rotate_left 1
                · (intro w hSw;obtain⟨q1,q2,-⟩:=hSw;go_simp;try with_reducible rfl)
                try simp only[Act.put,zzA,zzB,zzD,zzE,zzF]
                refine wpAnyH_take (i:=1) (v:=?_) rfl (by kernel_rfl) (by kernel_rfl) (by kernel_rfl) (fun _ _ _ h=>h) (Or.inl ⟨by rfl,?_⟩) hHeld ?_
                rotate_left 1
                · (intro w hSw;obtain⟨q1,q2,-⟩:=hSw;go_simp;try with_reducible rfl)
                try simp only[Act.put,zzA,zzB,zzC,zzD,zzE,zzF]
                refine wpAnyH_take (i:=2) (v:=(.bool false)) rfl (by kernel_rfl) (by kernel_rfl) (by kernel_rfl) (fun _ _ _ h=>h) (Or.inl ⟨by rfl,?_⟩) hHeld ?_
                · (intro w hSw;first|(go_simp;done)|(go_simp;exact a1)|(go_simp;simp[a1]))
                try simp only[Act.put,zzA,zzB,zzC,zzD,zzE,zzF]
                refine wpAnyH_take (i:=3) (v:=?_) rfl (by kernel_rfl) (by kernel_rfl) (by kernel_rfl) (fun _ _ _ h=>h) (Or.inl ⟨by rfl,?_⟩) hHeld ?_
                rotate_left 1
                · (intro w hSw;(try dsimp only at hSw);go_simp;try with_reducible rfl)
                try simp only[Act.put,zzA,zzB,zzC,zzD,zzE,zzF]
                refine wpAnyH_take (i:=4) (v:=?_) rfl (by kernel_rfl) (by kernel_rfl) (by kernel_rfl) (fun _ _ _ h=>h) (Or.inl ⟨by rfl,?_⟩) hHeld ?_
                rotate_left 1
                · (intro w hSw;(try dsimp only at hSw);go_simp;try with_reducible rfl)
                try simp only[Act.put,zzA,zzB,zzC,zzD,zzE,zzF]
                refine wpAnyH_take (i:=5) (v:=(.bool false)) rfl (by kernel_rfl) (by kernel_rfl) (by kernel_rfl) (fun _ _ _ h=>h) (Or.inl ⟨by rfl,?_⟩) hHeld ?_
                · (intro w hSw;first|(go_simp;done)|(go_simp;exact n1)|(go_simp;exact n0)|(go_simp;simp[n1,n0]))
                try simp only[Act.put,zzA,zzB,zzC,zzD,zzE,zzF]
                refine wpAnyH_take (i:=6) (v:=?_) rfl (by kernel_rfl) (by kernel_rfl) (by kernel_rfl) (fun _ _ _ h=>h) (Or.inl ⟨by rfl,?_⟩) hHeld ?_
                rotate_left 1
                · (intro w hSw;(try dsimp only at hSw);go_simp;try with_reducible rfl)
                try simp only[Act.put,zzA,zzB,zzC,zzD,zzE,zzF]
                refine wpAnyH_take (i:=7) (v:=undef) rfl (by kernel_rfl) (by kernel_rfl) (by kernel_rfl) (fun _ _ _ h=>h) (Or.inr ⟨by rfl,rfl⟩) hHeld ?_
                try simp only[Act.put,zzA,zzB,zzC,zzD,zzE,zzF]
                refine wpAnyH_take (i:=8) (v:=undef) rfl (by kernel_rfl) (by kernel_rfl) (by kernel_rfl) (fun _ _ _ h=>h) (Or.inr ⟨by rfl,rfl⟩) hHeld ?_
                try simp only[Act.put,zzA,zzB,zzC,zzD,zzE,zzF]
                refine wpAnyH_take (i:=9) (v:=undef) rfl (by kernel_rfl) (by kernel_rfl) (by kernel_rfl) (fun _ _ _ h=>h) (Or.inr ⟨by rfl,rfl⟩) hHeld ?_
                try simp only[Act.put,zzA,zzB,zzC,zzD,zzE,zzF]
                refine wpAnyH_take (i:=10) (v:=undef) rfl (by kernel_rfl) (by kernel_rfl) (by kernel_rfl) (fun _ _ _ h=>h) (Or.inr ⟨by rfl,rfl⟩) hHeld ?_
                try simp only[Act.put,zzA,zzB,zzC,zzD,zzE,zzF]
                refine wpAnyH_take (i:=11) (v:=undef) rfl (by kernel_rfl) (by kernel_rfl) (by kernel_rfl) (fun _ _ _ h=>h) (Or.inr ⟨by rfl,rfl⟩) hHeld ?_
                try simp only[Act.put,zzA,zzB,zzC,zzD,zzE,zzF]
                refine wpAnyH_take (i:=12) (v:=undef) rfl (by kernel_rfl) (by kernel_rfl) (by kernel_rfl) (fun _ _ _ h=>h) (Or.inr ⟨by rfl,rfl⟩) hHeld ?_
                try simp only[Act.put,zzA,zzB,zzC,zzD,zzE,zzF]
                refine wpAnyH_take (i:=13) (v:=undef) rfl (by kernel_rfl) (by kernel_rfl) (by kernel_rfl) (fun _ _ _ h=>h) (Or.inr ⟨by rfl,rfl⟩) hHeld ?_
                try simp only[Act.put,zzA,zzB,zzC,zzD,zzE,zzF]
                refine wpAnyH_take (i:=14) (v:=undef) rfl (by kernel_rfl) (by kernel_rfl) (by kernel_rfl) (fun _ _ _ h=>h) (Or.inr ⟨by rfl,rfl⟩) hHeld ?_
                try simp only[Act.put,zzA,zzB,zzC,zzD,zzE,zzF]
                refine wpAnyH_take (i:=15) (v:=undef) rfl (by kernel_rfl) (by kernel_rfl) (by kernel_rfl) (fun _ _ _ h=>h) (Or.inr ⟨by rfl,rfl⟩) hHeld ?_
                try simp only[Act.put,zzA,zzB,zzC,zzD,zzE,zzF]
                refine wpAnyH_take (i:=16) (v:=undef) rfl (by kernel_rfl) (by kernel_rfl) (by kernel_rfl) (fun _ _ _ h=>h) (Or.inr ⟨by rfl,rfl⟩) hHeld ?_
                try simp only[Act.put,zzA,zzB,zzC,zzD,zzE,zzF]
                refine wpAnyH_take (i:=17) (v:=?_) rfl (by kernel_rfl) (by kernel_rfl) (by kernel_rfl) (fun _ _ _ h=>h) (Or.inl ⟨by rfl,?_⟩) hHeld ?_
                rotate_left 1
                · (intro w hSw;(try dsimp only at hSw);go_simp;try with_reducible rfl)
                try simp only[Act.put,zzA,zzB,zzC,zzD,zzE,zzF]
                refine wpAnyH_take (i:=18) (v:=?_) rfl (by kernel_rfl) (by kernel_rfl) (by kernel_rfl) (fun _ _ _ h=>h) (Or.inl ⟨by rfl,?_⟩) hHeld ?_
                rotate_left 1
                · (intro w hSw;(try dsimp only at hSw);go_simp;try with_reducible rfl)
                try simp only[Act.put,zzA,zzB,zzC,zzD,zzE,zzF]
                refine wpAnyH_take (i:=19) (v:=?_) rfl (by kernel_rfl) (by kernel_rfl) (by kernel_rfl) (fun _ _ _ h=>h) (Or.inl ⟨by rfl,?_⟩) hHeld ?_
                rotate_left 1
                · (intro w hSw;(try dsimp only at hSw);go_simp;try with_reducible rfl)
                try simp only[Act.put,zzA,zzB,zzC,zzD,zzE,zzF]
                refine wpAnyH_take (i:=20) (v:=?_) rfl (by kernel_rfl) (by kernel_rfl) (by kernel_rfl) (fun _ _ _ h=>h) (Or.inl ⟨by rfl,?_⟩) hHeld ?_
                rotate_left 1
                · (intro w hSw;(try dsimp only at hSw);go_simp;try with_reducible rfl)
                try simp only[Act.put,zzA,zzB,zzC,zzD,zzE,zzF]
                refine wpAnyH_take (i:=21) (v:=?_) rfl (by kernel_rfl) (by kernel_rfl) (by kernel_rfl) (fun _ _ _ h=>h) (Or.inl ⟨by rfl,?_⟩) hHeld ?_
                rotate_left 1
                · (intro w hSw;obtain⟨q1,q2,-⟩:=hSw;go_simp;try with_reducible rfl)
                try simp only[Act.put,zzA,zzB,zzC,zzD,zzE,zzF]
                refine wpAnyH_ready (rs:=[22]) (by kernel_rfl) (by simp) (AllReadyH.cons rfl (fun K hK=>?_) AllReadyH.nil)
                clear hHeld
                (try refine(if_pos rfl).mpr ?_)
                go_simp
                refine(KN.out _ ((G.refl wb).drew)).mono ?_
                rintro e w5 ⟨rfl,g5'⟩
                have g5:G wb w5:=((G.refl wb).drew).trans g5'
                clear g5'
                go_wp2_with fail
                refine hK.out _ _ (HS.out w5 g5) (fun hHeld=>?_)
                clear hK K
                try simp only[Act.put,zzA,zzB,zzC,zzD,zzE,zzF]
                refine wpAnyH_take (i:=23) (v:=?_) rfl (by kernel_rfl) (by kernel_rfl) (by kernel_rfl) (fun _ _ _ h=>h) (Or.inl ⟨by rfl,?_⟩) hHeld ?_
                rotate_left 1
                · (intro w hSw;(try dsimp only at hSw);go_simp;try with_reducible rfl)
                try simp only[Act.put,zzA,zzB,zzC,zzD,zzE,zzF]
                refine wpAnyH_take (i:=24) (v:=?_) rfl (by kernel_rfl) (by kernel_rfl) (by kernel_rfl) (fun _ _ _ h=>h) (Or.inl ⟨by rfl,?_⟩) hHeld ?_
                rotate_left 1
                · (intro w hSw;(try dsimp only at hSw);go_simp;try with_reducible rfl)
                try simp only[Act.put,zzA,zzB,zzC,zzD,zzE,zzF]
                refine wpAnyH_take (i:=25) (v:=?_) rfl (by kernel_rfl) (by kernel_rfl) (by kernel_rfl) (fun _ _ _ h=>h) (Or.inl ⟨by rfl,?_⟩) hHeld ?_
                rotate_left 1
                · (intro w hSw;(try dsimp only at hSw);go_simp;try with_reducible rfl)
                try simp only[Act.put,zzA,zzB,zzC,zzD,zzE,zzF]
                refine wpAnyH_take (i:=26) (v:=?_) rfl (by kernel_rfl) (by kernel_rfl) (by kernel_rfl) (fun _ _ _ h=>h) (Or.inl ⟨by rfl,?_⟩) hHeld ?_
                rotate_left 1
                · (intro w hSw;(try dsimp only at hSw);go_simp;try with_reducible rfl)
                try simp only[Act.put,zzA,zzB,zzC,zzD,zzE,zzF]
                refine wpAnyH_take (i:=27) (v:=?_) rfl (by kernel_rfl) (by kernel_rfl) (by kernel_rfl) (fun _ _ _ h=>h) (Or.inl ⟨by rfl,?_⟩) hHeld ?_
                rotate_left 1
                · (intro w hSw;obtain⟨q1,q2,-⟩:=hSw;go_simp;try with_reducible rfl)
                try simp only[Act.put,zzA,zzB,zzC,zzD,zzE,zzF]
                refine wpAnyH_ready (rs:=[28]) (by kernel_rfl) (by simp) (AllReadyH.cons rfl (fun K hK=>?_) AllReadyH.nil)
                clear hHeld
                (try refine(if_pos rfl).mpr ?_)
                go_simp
                refine(K2.out _ g5).mono ?_
                rintro e w6 ⟨rfl,g6'⟩
                have g6:G wb w6:=g5.trans g6'
                clear g6'
                go_wp2_with fail
                refine hK.out _ _ (HS.out w6 g6) (fun hHeld=>?_)
                clear hK K
                try simp only[Act.put,zzA,zzB,zzC,zzD,zzE,zzF]
                refine wpAnyH_take (i:=29) (v:=?_) rfl (by kernel_rfl) (by kernel_rfl) (by kernel_rfl) (fun _ _ _ h=>h) (Or.inl ⟨by rfl,?_⟩) hHeld ?_
                rotate_left 1
                · (intro w hSw;(try dsimp only at hSw);go_simp;try with_reducible rfl)
                try simp only[Act.put,zzA,zzB,zzC,zzD,zzE,zzF]
                refine wpAnyH_take (i:=30) (v:=?_) rfl (by kernel_rfl) (by kernel_rfl) (by kernel_rfl) (fun _ _ _ h=>h) (Or.inl ⟨by rfl,?_⟩) hHeld ?_
                rotate_left 1
                · (intro w hSw;(try dsimp only at hSw);go_simp;try with_reducible rfl)
                try simp only[Act.put,zzA,zzB,zzC,zzD,zzE,zzF]
                refine wpAnyH_take (i:=31) (v:=?_) rfl (by kernel_rfl) (by kernel_rfl) (by kernel_rfl) (fun _ _ _ h=>h) (Or.inl ⟨by rfl,?_⟩) hHeld ?_
                rotate_left 1
                · (intro w hSw;(try dsimp only at hSw);go_simp;try with_reducible rfl)
                try simp only[Act.put,zzA,zzB,zzC,zzD,zzE,zzF]
                refine wpAnyH_take (i:=32) (v:=?_) rfl (by kernel_rfl) (by kernel_rfl) (by kernel_rfl) (fun _ _ _ h=>h) (Or.inl ⟨by rfl,?_⟩) hHeld ?_
                rotate_left 1
                · (intro w hSw;(try dsimp only at hSw);go_simp;try with_reducible rfl)
                try simp only[Act.put,zzA,zzB,zzC,zzD,zzE,zzF]
                refine wpAnyH_take (i:=33) (v:=?_) rfl (by kernel_rfl) (by kernel_rfl) (by kernel_rfl) (fun _ _ _ h=>h) (Or.inl ⟨by rfl,?_⟩) hHeld ?_
                rotate_left 1
                · (intro w hSw;obtain⟨q1,q2,-⟩:=hSw;go_simp;try with_reducible rfl)
                try simp only[Act.put,zzA,zzB,zzC,zzD,zzE,zzF]
                refine wpAnyH_ready (rs:=[34]) (by kernel_rfl) (by simp) (AllReadyH.cons rfl (fun K hK=>?_) AllReadyH.nil)
                clear hHeld
                (try refine(if_pos rfl).mpr ?_)
                go_simp
                refine(K3.out _ g6).mono ?_
                rintro e w7 ⟨rfl,g7'⟩
                have g7:G wb w7:=g6.trans g7'
                clear g7'
                go_wp2_with fail
                refine hK.out _ _ (HS.out w7 g7) (fun hHeld=>?_)
                clear hK K
                try simp only[Act.put,zzA,zzB,zzC,zzD,zzE,zzF]
                refine wpAnyH_take (i:=35) (v:=?_) rfl (by kernel_rfl) (by kernel_rfl) (by kernel_rfl) (fun _ _ _ h=>h) (Or.inl ⟨by rfl,?_⟩) hHeld ?_
                rotate_left 1
                · (intro w hSw;(try dsimp only at hSw);go_simp;try with_reducible rfl)
                try simp only[Act.put,zzA,zzB,zzC,zzD,zzE,zzF]
                refine wpAnyH_take (i:=36) (v:=?_) rfl (by kernel_rfl) (by kernel_rfl) (by kernel_rfl) (fun _ _ _ h=>h) (Or.inl ⟨by rfl,?_⟩) hHeld ?_
                rotate_left 1
                · (intro w hSw;(try dsimp only at hSw);go_simp;try with_reducible rfl)
                try simp only[Act.put,zzA,zzB,zzC,zzD,zzE,zzF]
                refine wpAnyH_done (by kernel_rfl) ?_ _
                refine NoPanic.normal ?_
                go_wp2_with fail
                exact⟨⟨i+1,by rw[HW.out];exact srl i,HIL.out,.inr (by rw[HPN.out];exact HA1.out),HST.out,HG2.out.trans g7⟩,by rw[HW.out];exact sms HIL.out⟩
        · obtain⟨y,hy⟩:∃y,ns[i-1]?=some y:=⟨_,List.getElem?_eq_getElem (by omega)⟩
          obtain⟨cs,⟨vq,hcs,-⟩,hr2⟩:=HS0.out.1.at hy
          subst hcs
          have y0:wb.cell? ⟨g,o+(i-1)*3,none⟩=some (I y.id):=cell_G (by have:=rangeAt_G hr2 hg 0 _ rfl;simpa using this) hga
          have e1:wrap64 ((i:Int)-1)=((i-1:Nat):Int):=by unfold wrap64;omega
          have e2:IntKind.i64.wrap ((i:Int)-1)=((i-1:Nat):Int):=(Go.PlainAid.i64_is _).trans e1
          have jI:((i-1:Nat):Int)<(sn:Int):=by omega
          have n0:decide (0<i)=true:=by simp;omega
          have n1:decide ((0:Int)<(i:Int))=true:=by simp;omega
          have HPV:Hid (prevI (ns.map fun y=>y.id) i=y.id):=by
            obtain⟨j,rfl⟩:∃j,i=j+1:=⟨i-1,by omega⟩
            show(ns.map fun y=>y.id).getD j 0=_
            rw[List.getD_eq_getElem?_getD,List.getElem?_map,show ns[j]?=some y from hy];rfl
          clear hik hpr hl hil hx q2 hr1 hr2 hvp hpn hwb hB5 hga hxm hpo hg hi0 ha hy
          generalize i-1=j at *
          by_cases hc:x.id≤y.id
          · have hk:decide (x.id≤y.id)=true:=decide_eq_true hc
            have HF:Hid (bb=false):=HBB.out (by
              rw[hfr,fromB_step HX.out,decide_eq_true (show(fun y:Nd=>y.id) x≤_ from by rw[HPV.out];exact hc)]
              rfl)
            clear hc hfr
            have HS:Hid (∀V,G wb V→(∀o,V.cell? ⟨B5,o,none⟩=([I x.id,.string x.lb,.slice pa pn pc]:List Value)[o]?)∧(∀o9,V.cell? ⟨B1,o9,none⟩=([.slice (some ⟨g,o,none⟩) sn sc,.slice ta tn tc]:List Value)[o9]?)∧V.cell? ⟨g,o+j*3,none⟩=some (I y.id)∧G wb V):=fun V h=>⟨(HB5.out.G h).cell,(HB1W.out.G h).cell,cell_G y0 h,h⟩
            go_wp2_with fail
            rw[HEB.out]
            try rw[HE5.out]
            refine wp_region_noPanic ?_
            refine wp_region_held_drew (S:=(fun V=>(∀o,V.cell? ⟨B5,o,none⟩=([I x.id,.string x.lb,.slice pa pn pc]:List Value)[o]?)∧(∀o9,V.cell? ⟨B1,o9,none⟩=([.slice (some ⟨g,o,none⟩) sn sc,.slice ta tn tc]:List Value)[o9]?)∧V.cell? ⟨g,o+j*3,none⟩=some (I y.id)∧G wb V)) (by kernel_rfl) (HS.out _ ((G.refl _).drew)) (fun hHeld=>?_)
            refine wpAnyH_take (i:=0) (v:=?_) rfl (by kernel_rfl) (by kernel_rfl) (by kernel_rfl) (fun _ _ _ h=>h) (Or.inl ⟨by rfl,?_⟩) hHeld ?_
            rotate_left 1
            · (intro w hSw;obtain⟨q1,q2,q3,-⟩:=hSw;go_simp;try with_reducible rfl)
            try simp only[Act.put,zzA,zzB,zzD,zzE,zzF]
            refine wpAnyH_take (i:=1) (v:=?_) rfl (by kernel_rfl) (by kernel_rfl) (by kernel_rfl) (fun _ _ _ h=>h) (Or.inl ⟨by rfl,?_⟩) hHeld ?_
            rotate_left 1
            · (intro w hSw;obtain⟨q1,q2,q3,-⟩:=hSw;go_simp;try with_reducible rfl)
            try simp only[Act.put,zzA,zzB,zzC,zzD,zzE,zzF]
            refine wpAnyH_take (i:=2) (v:=(.bool false)) rfl (by kernel_rfl) (by kernel_rfl) (by kernel_rfl) (fun _ _ _ h=>h) (Or.inl ⟨by rfl,?_⟩) hHeld ?_
            · (intro w hSw;first|(go_simp;done)|(go_simp;exact a1)|(go_simp;simp[a1]))
            try simp only[Act.put,zzA,zzB,zzC,zzD,zzE,zzF]
            refine wpAnyH_take (i:=3) (v:=?_) rfl (by kernel_rfl) (by kernel_rfl) (by kernel_rfl) (fun _ _ _ h=>h) (Or.inl ⟨by rfl,?_⟩) hHeld ?_
            rotate_left 1
            · (intro w hSw;(try dsimp only at hSw);go_simp;try with_reducible rfl)
            try simp only[Act.put,zzA,zzB,zzC,zzD,zzE,zzF]
            refine wpAnyH_take (i:=4) (v:=?_) rfl (by kernel_rfl) (by kernel_rfl) (by kernel_rfl) (fun _ _ _ h=>h) (Or.inl ⟨by rfl,?_⟩) hHeld ?_
            rotate_left 1
            · (intro w hSw;(try dsimp only at hSw);go_simp;try with_reducible rfl)
            try simp only[Act.put,zzA,zzB,zzC,zzD,zzE,zzF]
            refine wpAnyH_take (i:=5) (v:=(.bool true)) rfl (by kernel_rfl) (by kernel_rfl) (by kernel_rfl) (fun _ _ _ h=>h) (Or.inl ⟨by rfl,?_⟩) hHeld ?_
            · (intro w hSw;first|(go_simp;done)|(go_simp;exact n1)|(go_simp;exact n0)|(go_simp;simp[n1,n0]))
            try simp only[Act.put,zzA,zzB,zzC,zzD,zzE,zzF]
            refine wpAnyH_take (i:=6) (v:=?_) rfl (by kernel_rfl) (by kernel_rfl) (by kernel_rfl) (fun _ _ _ h=>h) (Or.inl ⟨by rfl,?_⟩) hHeld ?_
            rotate_left 1
            · (intro w hSw;(try dsimp only at hSw);go_simp;try with_reducible rfl)
            try simp only[Act.put,zzA,zzB,zzC,zzD,zzE,zzF]
            refine wpAnyH_take (i:=7) (v:=?_) rfl (by kernel_rfl) (by kernel_rfl) (by kernel_rfl) (fun _ _ _ h=>h) (Or.inl ⟨by rfl,?_⟩) hHeld ?_
            rotate_left 1
            · (intro w hSw;(try dsimp only at hSw);go_simp;try with_reducible rfl)
            try simp only[Act.put,zzA,zzB,zzC,zzD,zzE,zzF]
            refine wpAnyH_take (i:=8) (v:=?_) rfl (by kernel_rfl) (by kernel_rfl) (by kernel_rfl) (fun _ _ _ h=>h) (Or.inl ⟨by rfl,?_⟩) hHeld ?_
            rotate_left 1
            · (intro w hSw;obtain⟨q1,q2,q3,-⟩:=hSw;go_simp;try with_reducible rfl)
            try simp only[Act.put,zzA,zzB,zzC,zzD,zzE,zzF]
            refine wpAnyH_take (i:=9) (v:=?_) rfl (by kernel_rfl) (by kernel_rfl) (by kernel_rfl) (fun _ _ _ h=>h) (Or.inl ⟨by rfl,?_⟩) hHeld ?_
            rotate_left 1
            · (intro w hSw;(try dsimp only at hSw);go_simp;try with_reducible rfl)
            try simp only[Act.put,zzA,zzB,zzC,zzD,zzE,zzF]
            refine wpAnyH_take (i:=10) (v:=?_) rfl (by kernel_rfl) (by kernel_rfl) (by kernel_rfl) (fun _ _ _ h=>h) (Or.inl ⟨by rfl,?_⟩) hHeld ?_
            rotate_left 1
            · (intro w hSw;(try dsimp only at hSw);go_simp;try with_reducible rfl)
            try simp only[Act.put,zzA,zzB,zzC,zzD,zzE,zzF]
            refine wpAnyH_take (i:=11) (v:=?_) rfl (by kernel_rfl) (by kernel_rfl) (by kernel_rfl) (fun _ _ _ h=>h) (Or.inl ⟨by rfl,?_⟩) hHeld ?_
            rotate_left 1
            · (intro w hSw;(try dsimp only at hSw);go_simp;try with_reducible rfl)
            try simp only[Act.put,zzA,zzB,zzC,zzD,zzE,zzF]
            refine wpAnyH_take (i:=12) (v:=?_) rfl (by kernel_rfl) (by kernel_rfl) (by kernel_rfl) (fun _ _ _ h=>h) (Or.inl ⟨by rfl,?_⟩) hHeld ?_
            rotate_left 1
            · (intro w hSw;(try dsimp only at hSw);go_simp;try with_reducible rfl)
            try simp only[Act.put,zzA,zzB,zzC,zzD,zzE,zzF]
            refine wpAnyH_take (i:=13) (v:=?_) rfl (by kernel_rfl) (by kernel_rfl) (by kernel_rfl) (fun _ _ _ h=>h) (Or.inl ⟨by rfl,?_⟩) hHeld ?_
            rotate_left 1
            · (intro w hSw;obtain⟨q1,q2,q3,-⟩:=hSw;go_simp;try with_reducible rfl)
            try simp only[Act.put,zzA,zzB,zzC,zzD,zzE,zzF]
            refine wpAnyH_take (i:=14) (v:=?_) rfl (by kernel_rfl) (by kernel_rfl) (by kernel_rfl) (fun _ _ _ h=>h) (Or.inl ⟨by rfl,?_⟩) hHeld ?_
            rotate_left 1
            · (intro w hSw;(try dsimp only at hSw);go_simp;try with_reducible rfl)
            try simp only[Act.put,zzA,zzB,zzC,zzD,zzE,zzF]
            refine wpAnyH_take (i:=15) (v:=?_) rfl (by kernel_rfl) (by kernel_rfl) (by kernel_rfl) (fun _ _ _ h=>h) (Or.inl ⟨by rfl,?_⟩) hHeld ?_
            rotate_left 1
            · (intro w hSw;obtain⟨q1,q2,q3,-⟩:=hSw;go_simp;try with_reducible rfl)
            try simp only[Act.put,zzA,zzB,zzC,zzD,zzE,zzF]
            refine wpAnyH_take (i:=16) (v:=(.bool true)) rfl (by kernel_rfl) (by kernel_rfl) (by kernel_rfl) (fun _ _ _ h=>h) (Or.inl ⟨by rfl,?_⟩) hHeld ?_
            · (intro w hSw;first|(go_simp;done)|(go_simp;exact hk)|(go_simp;simp[hk]))
            try simp only[Act.put,zzA,zzB,zzC,zzD,zzE,zzF]
            refine wpAnyH_take (i:=17) (v:=?_) rfl (by kernel_rfl) (by kernel_rfl) (by kernel_rfl) (fun _ _ _ h=>h) (Or.inl ⟨by rfl,?_⟩) hHeld ?_
            rotate_left 1
            · (intro w hSw;(try dsimp only at hSw);go_simp;try with_reducible rfl)
            try simp only[Act.put,zzA,zzB,zzC,zzD,zzE,zzF]
            refine wpAnyH_take (i:=18) (v:=?_) rfl (by kernel_rfl) (by kernel_rfl) (by kernel_rfl) (fun _ _ _ h=>h) (Or.inl ⟨by rfl,?_⟩) hHeld ?_
            rotate_left 1
            · (intro w hSw;(try dsimp only at hSw);go_simp;try with_reducible rfl)
            try simp only[Act.put,zzA,zzB,zzC,zzD,zzE,zzF]
            refine wpAnyH_take (i:=19) (v:=?_) rfl (by kernel_rfl) (by kernel_rfl) (by kernel_rfl) (fun _ _ _ h=>h) (Or.inl ⟨by rfl,?_⟩) hHeld ?_
            rotate_left 1
            · (intro w hSw;(try dsimp only at hSw);go_simp;try with_reducible rfl)
            try simp only[Act.put,zzA,zzB,zzC,zzD,zzE,zzF]
            refine wpAnyH_take (i:=20) (v:=undef) rfl (by kernel_rfl) (by kernel_rfl) (by kernel_rfl) (fun _ _ _ h=>h) (Or.inr ⟨by rfl,rfl⟩) hHeld ?_
            try simp only[Act.put,zzA,zzB,zzC,zzD,zzE,zzF]
            refine wpAnyH_take (i:=21) (v:=undef) rfl (by kernel_rfl) (by kernel_rfl) (by kernel_rfl) (fun _ _ _ h=>h) (Or.inr ⟨by rfl,rfl⟩) hHeld ?_
            try simp only[Act.put,zzA,zzB,zzC,zzD,zzE,zzF]
            refine wpAnyH_take (i:=22) (v:=undef) rfl (by kernel_rfl) (by kernel_rfl) (by kernel_rfl) (fun _ _ _ h=>h) (Or.inr ⟨by rfl,rfl⟩) hHeld ?_
            try simp only[Act.put,zzA,zzB,zzC,zzD,zzE,zzF]
            refine wpAnyH_take (i:=23) (v:=undef) rfl (by kernel_rfl) (by kernel_rfl) (by kernel_rfl) (fun _ _ _ h=>h) (Or.inr ⟨by rfl,rfl⟩) hHeld ?_
            try simp only[Act.put,zzA,zzB,zzC,zzD,zzE,zzF]
            refine wpAnyH_take (i:=24) (v:=?_) rfl (by kernel_rfl) (by kernel_rfl) (by kernel_rfl) (fun _ _ _ h=>h) (Or.inl ⟨by rfl,?_⟩) hHeld ?_
            rotate_left 1
            · (intro w hSw;(try dsimp only at hSw);go_simp;try with_reducible rfl)
            try simp only[Act.put,zzA,zzB,zzC,zzD,zzE,zzF]
            refine wpAnyH_take (i:=25) (v:=?_) rfl (by kernel_rfl) (by kernel_rfl) (by kernel_rfl) (fun _ _ _ h=>h) (Or.inl ⟨by rfl,?_⟩) hHeld ?_
            rotate_left 1
            · (intro w hSw;(try dsimp only at hSw);go_simp;try with_reducible rfl)
            try simp only[Act.put,zzA,zzB,zzC,zzD,zzE,zzF]
            refine wpAnyH_take (i:=26) (v:=undef) rfl (by kernel_rfl) (by kernel_rfl) (by kernel_rfl) (fun _ _ _ h=>h) (Or.inr ⟨by rfl,rfl⟩) hHeld ?_
            try simp only[Act.put,zzA,zzB,zzC,zzD,zzE,zzF]
            refine wpAnyH_take (i:=27) (v:=undef) rfl (by kernel_rfl) (by kernel_rfl) (by kernel_rfl) (fun _ _ _ h=>h) (Or.inr ⟨by rfl,rfl⟩) hHeld ?_
            try simp only[Act.put,zzA,zzB,zzC,zzD,zzE,zzF]
            refine wpAnyH_take (i:=28) (v:=undef) rfl (by kernel_rfl) (by kernel_rfl) (by kernel_rfl) (fun _ _ _ h=>h) (Or.inr ⟨by rfl,rfl⟩) hHeld ?_
            try simp only[Act.put,zzA,zzB,zzC,zzD,zzE,zzF]
            refine wpAnyH_take (i:=29) (v:=undef) rfl (by kernel_rfl) (by kernel_rfl) (by kernel_rfl) (fun _ _ _ h=>h) (Or.inr ⟨by rfl,rfl⟩) hHeld ?_
            try simp only[Act.put,zzA,zzB,zzC,zzD,zzE,zzF]
            refine wpAnyH_take (i:=30) (v:=?_) rfl (by kernel_rfl) (by kernel_rfl) (by kernel_rfl) (fun _ _ _ h=>h) (Or.inl ⟨by rfl,?_⟩) hHeld ?_
            rotate_left 1
            · (intro w hSw;(try dsimp only at hSw);go_simp;try with_reducible rfl)
            try simp only[Act.put,zzA,zzB,zzC,zzD,zzE,zzF]
            refine wpAnyH_take (i:=31) (v:=?_) rfl (by kernel_rfl) (by kernel_rfl) (by kernel_rfl) (fun _ _ _ h=>h) (Or.inl ⟨by rfl,?_⟩) hHeld ?_
            rotate_left 1
            · (intro w hSw;(try dsimp only at hSw);go_simp;try with_reducible rfl)
            try simp only[Act.put,zzA,zzB,zzC,zzD,zzE,zzF]
            refine wpAnyH_take (i:=32) (v:=undef) rfl (by kernel_rfl) (by kernel_rfl) (by kernel_rfl) (fun _ _ _ h=>h) (Or.inr ⟨by rfl,rfl⟩) hHeld ?_
            try simp only[Act.put,zzA,zzB,zzC,zzD,zzE,zzF]
            refine wpAnyH_take (i:=33) (v:=undef) rfl (by kernel_rfl) (by kernel_rfl) (by kernel_rfl) (fun _ _ _ h=>h) (Or.inr ⟨by rfl,rfl⟩) hHeld ?_
            try simp only[Act.put,zzA,zzB,zzC,zzD,zzE,zzF]
            refine wpAnyH_take (i:=34) (v:=undef) rfl (by kernel_rfl) (by kernel_rfl) (by kernel_rfl) (fun _ _ _ h=>h) (Or.inr ⟨by rfl,rfl⟩) hHeld ?_
            try simp only[Act.put,zzA,zzB,zzC,zzD,zzE,zzF]
            refine wpAnyH_take (i:=35) (v:=undef) rfl (by kernel_rfl) (by kernel_rfl) (by kernel_rfl) (fun _ _ _ h=>h) (Or.inr ⟨by rfl,rfl⟩) hHeld ?_
            try simp only[Act.put,zzA,zzB,zzC,zzD,zzE,zzF]
            refine wpAnyH_take (i:=36) (v:=?_) rfl (by kernel_rfl) (by kernel_rfl) (by kernel_rfl) (fun _ _ _ h=>h) (Or.inl ⟨by rfl,?_⟩) hHeld ?_
            rotate_left 1
            · (intro w hSw;(try dsimp only at hSw);go_simp;try with_reducible rfl)
            try simp only[Act.put,zzA,zzB,zzC,zzD,zzE,zzF]
            refine wpAnyH_done (by kernel_rfl) ?_ _
            refine NoPanic.normal ?_
            go_wp2_with fail
            go_ret
            exact⟨by rw[HF.out]<;>rfl,HGB.out.drew⟩
          · have hk:decide (x.id≤y.id)=false:=decide_eq_false hc
            have HNL:Hid (¬(x.id≤prevI (ns.map fun y=>y.id) i)):=by rw[Hid,HPV.out];exact hc
            clear hc hfr
            have hst:=fromB_step (id:=fun y=>y.id) (ok:=nodeOk) HX.out
            rw[show decide ((fun y:Nd=>y.id) x≤prevI (ns.map fun y=>y.id) i)=false from decide_eq_false HNL.out] at hst
            cases hb1:nameB x.lb with
            | false=>
              rw[hb1] at KN
              have HF:Hid (bb=false):=HBB.out (by rw[HR.out,hst];simp[nodeOk,hb1])
              clear hb1 hst
              have HS:Hid (∀V,G wb V→(∀o,V.cell? ⟨B5,o,none⟩=([I x.id,.string x.lb,.slice pa pn pc]:List Value)[o]?)∧(∀o9,V.cell? ⟨B1,o9,none⟩=([.slice (some ⟨g,o,none⟩) sn sc,.slice ta tn tc]:List Value)[o9]?)∧V.cell? ⟨g,o+j*3,none⟩=some (I y.id)∧G wb V):=fun V h=>⟨(HB5.out.G h).cell,(HB1W.out.G h).cell,cell_G y0 h,h⟩
              go_wp2_with fail
              rw[HEB.out]
              try rw[HE5.out]
              refine wp_region_noPanic ?_
              refine wp_region_held_drew (S:=(fun V=>(∀o,V.cell? ⟨B5,o,none⟩=([I x.id,.string x.lb,.slice pa pn pc]:List Value)[o]?)∧(∀o9,V.cell? ⟨B1,o9,none⟩=([.slice (some ⟨g,o,none⟩) sn sc,.slice ta tn tc]:List Value)[o9]?)∧V.cell? ⟨g,o+j*3,none⟩=some (I y.id)∧G wb V)) (by kernel_rfl) (HS.out _ ((G.refl _).drew)) (fun hHeld=>?_)
              refine wpAnyH_take (i:=0) (v:=?_) rfl (by kernel_rfl) (by kernel_rfl) (by kernel_rfl) (fun _ _ _ h=>h) (Or.inl ⟨by rfl,?_⟩) hHeld ?_
              rotate_left 1
              · (intro w hSw;obtain⟨q1,q2,q3,-⟩:=hSw;go_simp;try with_reducible rfl)
              try simp only[Act.put,zzA,zzB,zzD,zzE,zzF]
              refine wpAnyH_take (i:=1) (v:=?_) rfl (by kernel_rfl) (by kernel_rfl) (by kernel_rfl) (fun _ _ _ h=>h) (Or.inl ⟨by rfl,?_⟩) hHeld ?_
              rotate_left 1
              · (intro w hSw;obtain⟨q1,q2,q3,-⟩:=hSw;go_simp;try with_reducible rfl)
              try simp only[Act.put,zzA,zzB,zzC,zzD,zzE,zzF]
              refine wpAnyH_take (i:=2) (v:=(.bool false)) rfl (by kernel_rfl) (by kernel_rfl) (by kernel_rfl) (fun _ _ _ h=>h) (Or.inl ⟨by rfl,?_⟩) hHeld ?_
              · (intro w hSw;first|(go_simp;done)|(go_simp;exact a1)|(go_simp;simp[a1]))
              try simp only[Act.put,zzA,zzB,zzC,zzD,zzE,zzF]
              refine wpAnyH_take (i:=3) (v:=?_) rfl (by kernel_rfl) (by kernel_rfl) (by kernel_rfl) (fun _ _ _ h=>h) (Or.inl ⟨by rfl,?_⟩) hHeld ?_
              rotate_left 1
              · (intro w hSw;(try dsimp only at hSw);go_simp;try with_reducible rfl)
              try simp only[Act.put,zzA,zzB,zzC,zzD,zzE,zzF]
              refine wpAnyH_take (i:=4) (v:=?_) rfl (by kernel_rfl) (by kernel_rfl) (by kernel_rfl) (fun _ _ _ h=>h) (Or.inl ⟨by rfl,?_⟩) hHeld ?_
              rotate_left 1
              · (intro w hSw;(try dsimp only at hSw);go_simp;try with_reducible rfl)
              try simp only[Act.put,zzA,zzB,zzC,zzD,zzE,zzF]
              refine wpAnyH_take (i:=5) (v:=(.bool true)) rfl (by kernel_rfl) (by kernel_rfl) (by kernel_rfl) (fun _ _ _ h=>h) (Or.inl ⟨by rfl,?_⟩) hHeld ?_
              · (intro w hSw;first|(go_simp;done)|(go_simp;exact n1)|(go_simp;exact n0)|(go_simp;simp[n1,n0]))
              try simp only[Act.put,zzA,zzB,zzC,zzD,zzE,zzF]
              refine wpAnyH_take (i:=6) (v:=?_) rfl (by kernel_rfl) (by kernel_rfl) (by kernel_rfl) (fun _ _ _ h=>h) (Or.inl ⟨by rfl,?_⟩) hHeld ?_
              rotate_left 1
              · (intro w hSw;(try dsimp only at hSw);go_simp;try with_reducible rfl)
              try simp only[Act.put,zzA,zzB,zzC,zzD,zzE,zzF]
              refine wpAnyH_take (i:=7) (v:=?_) rfl (by kernel_rfl) (by kernel_rfl) (by kernel_rfl) (fun _ _ _ h=>h) (Or.inl ⟨by rfl,?_⟩) hHeld ?_
              rotate_left 1
              · (intro w hSw;(try dsimp only at hSw);go_simp;try with_reducible rfl)
              try simp only[Act.put,zzA,zzB,zzC,zzD,zzE,zzF]
              refine wpAnyH_take (i:=8) (v:=?_) rfl (by kernel_rfl) (by kernel_rfl) (by kernel_rfl) (fun _ _ _ h=>h) (Or.inl ⟨by rfl,?_⟩) hHeld ?_
              rotate_left 1
              · (intro w hSw;obtain⟨q1,q2,q3,-⟩:=hSw;go_simp;try with_reducible rfl)
              try simp only[Act.put,zzA,zzB,zzC,zzD,zzE,zzF]
              refine wpAnyH_take (i:=9) (v:=?_) rfl (by kernel_rfl) (by kernel_rfl) (by kernel_rfl) (fun _ _ _ h=>h) (Or.inl ⟨by rfl,?_⟩) hHeld ?_
              rotate_left 1
              · (intro w hSw;(try dsimp only at hSw);go_simp;try with_reducible rfl)
              try simp only[Act.put,zzA,zzB,zzC,zzD,zzE,zzF]
              refine wpAnyH_take (i:=10) (v:=?_) rfl (by kernel_rfl) (by kernel_rfl) (by kernel_rfl) (fun _ _ _ h=>h) (Or.inl ⟨by rfl,?_⟩) hHeld ?_
              rotate_left 1
              · (intro w hSw;(try dsimp only at hSw);go_simp;try with_reducible rfl)
              try simp only[Act.put,zzA,zzB,zzC,zzD,zzE,zzF]
              refine wpAnyH_take (i:=11) (v:=?_) rfl (by kernel_rfl) (by kernel_rfl) (by kernel_rfl) (fun _ _ _ h=>h) (Or.inl ⟨by rfl,?_⟩) hHeld ?_
              rotate_left 1
              · (intro w hSw;(try dsimp only at hSw);go_simp;try with_reducible rfl)
              try simp only[Act.put,zzA,zzB,zzC,zzD,zzE,zzF]
              refine wpAnyH_take (i:=12) (v:=?_) rfl (by kernel_rfl) (by kernel_rfl) (by kernel_rfl) (fun _ _ _ h=>h) (Or.inl ⟨by rfl,?_⟩) hHeld ?_
              rotate_left 1
              · (intro w hSw;(try dsimp only at hSw);go_simp;try with_reducible rfl)
              try simp only[Act.put,zzA,zzB,zzC,zzD,zzE,zzF]
              refine wpAnyH_take (i:=13) (v:=?_) rfl (by kernel_rfl) (by kernel_rfl) (by kernel_rfl) (fun _ _ _ h=>h) (Or.inl ⟨by rfl,?_⟩) hHeld ?_
              rotate_left 1
              · (intro w hSw;obtain⟨q1,q2,q3,-⟩:=hSw;go_simp;try with_reducible rfl)
              try simp only[Act.put,zzA,zzB,zzC,zzD,zzE,zzF]
              refine wpAnyH_take (i:=14) (v:=?_) rfl (by kernel_rfl) (by kernel_rfl) (by kernel_rfl) (fun _ _ _ h=>h) (Or.inl ⟨by rfl,?_⟩) hHeld ?_
              rotate_left 1
              · (intro w hSw;(try dsimp only at hSw);go_simp;try with_reducible rfl)
              try simp only[Act.put,zzA,zzB,zzC,zzD,zzE,zzF]
              refine wpAnyH_take (i:=15) (v:=?_) rfl (by kernel_rfl) (by kernel_rfl) (by kernel_rfl) (fun _ _ _ h=>h) (Or.inl ⟨by rfl,?_⟩) hHeld ?_
              rotate_left 1
              · (intro w hSw;obtain⟨q1,q2,q3,-⟩:=hSw;go_simp;try with_reducible rfl)
              try simp only[Act.put,zzA,zzB,zzC,zzD,zzE,zzF]
              refine wpAnyH_take (i:=16) (v:=(.bool false)) rfl (by kernel_rfl) (by kernel_rfl) (by kernel_rfl) (fun _ _ _ h=>h) (Or.inl ⟨by rfl,?_⟩) hHeld ?_
              · (intro w hSw;first|(go_simp;done)|(go_simp;exact hk)|(go_simp;simp[hk]))
              try simp only[Act.put,zzA,zzB,zzC,zzD,zzE,zzF]
              refine wpAnyH_take (i:=17) (v:=?_) rfl (by kernel_rfl) (by kernel_rfl) (by kernel_rfl) (fun _ _ _ h=>h) (Or.inl ⟨by rfl,?_⟩) hHeld ?_
              rotate_left 1
              · (intro w hSw;(try dsimp only at hSw);go_simp;try with_reducible rfl)
              try simp only[Act.put,zzA,zzB,zzC,zzD,zzE,zzF]
              refine wpAnyH_take (i:=18) (v:=?_) rfl (by kernel_rfl) (by kernel_rfl) (by kernel_rfl) (fun _ _ _ h=>h) (Or.inl ⟨by rfl,?_⟩) hHeld ?_
              rotate_left 1
              · (intro w hSw;(try dsimp only at hSw);go_simp;try with_reducible rfl)
              try simp only[Act.put,zzA,zzB,zzC,zzD,zzE,zzF]
              refine wpAnyH_take (i:=19) (v:=?_) rfl (by kernel_rfl) (by kernel_rfl) (by kernel_rfl) (fun _ _ _ h=>h) (Or.inl ⟨by rfl,?_⟩) hHeld ?_
              rotate_left 1
              · (intro w hSw;(try dsimp only at hSw);go_simp;try with_reducible rfl)
              try simp only[Act.put,zzA,zzB,zzC,zzD,zzE,zzF]
              refine wpAnyH_take (i:=20) (v:=?_) rfl (by kernel_rfl) (by kernel_rfl) (by kernel_rfl) (fun _ _ _ h=>h) (Or.inl ⟨by rfl,?_⟩) hHeld ?_
              rotate_left 1
              · (intro w hSw;(try dsimp only at hSw);go_simp;try with_reducible rfl)
              try simp only[Act.put,zzA,zzB,zzC,zzD,zzE,zzF]
              refine wpAnyH_take (i:=21) (v:=?_) rfl (by kernel_rfl) (by kernel_rfl) (by kernel_rfl) (fun _ _ _ h=>h) (Or.inl ⟨by rfl,?_⟩) hHeld ?_
              rotate_left 1
              · (intro w hSw;obtain⟨q1,q2,q3,-⟩:=hSw;go_simp;try with_reducible rfl)
              try simp only[Act.put,zzA,zzB,zzC,zzD,zzE,zzF]
              refine wpAnyH_ready (rs:=[22]) (by kernel_rfl) (by simp) (AllReadyH.cons rfl (fun K hK=>?_) AllReadyH.nil)
              clear hHeld
              (try refine(if_pos rfl).mpr ?_)
              go_simp
              refine(KN.out _ ((G.refl wb).drew)).mono ?_
              rintro e w5 ⟨rfl,g5'⟩
              have g5:G wb w5:=((G.refl wb).drew).trans g5'
              clear g5'
              go_wp2_with fail
              refine hK.out _ _ (HS.out w5 g5) (fun hHeld=>?_)
              clear hK K
              try simp only[Act.put,zzA,zzB,zzC,zzD,zzE,zzF]
              refine wpAnyH_take (i:=23) (v:=?_) rfl (by kernel_rfl) (by kernel_rfl) (by kernel_rfl) (fun _ _ _ h=>h) (Or.inl ⟨by rfl,?_⟩) hHeld ?_
              rotate_left 1
              · (intro w hSw;(try dsimp only at hSw);go_simp;try with_reducible rfl)
              try simp only[Act.put,zzA,zzB,zzC,zzD,zzE,zzF]
              refine wpAnyH_take (i:=24) (v:=?_) rfl (by kernel_rfl) (by kernel_rfl) (by kernel_rfl) (fun _ _ _ h=>h) (Or.inl ⟨by rfl,?_⟩) hHeld ?_
              rotate_left 1
              · (intro w hSw;(try dsimp only at hSw);go_simp;try with_reducible rfl)
              try simp only[Act.put,zzA,zzB,zzC,zzD,zzE,zzF]
              refine wpAnyH_take (i:=25) (v:=?_) rfl (by kernel_rfl) (by kernel_rfl) (by kernel_rfl) (fun _ _ _ h=>h) (Or.inl ⟨by rfl,?_⟩) hHeld ?_
              rotate_left 1
              · (intro w hSw;(try dsimp only at hSw);go_simp;try with_reducible rfl)
              try simp only[Act.put,zzA,zzB,zzC,zzD,zzE,zzF]
              refine wpAnyH_take (i:=26) (v:=undef) rfl (by kernel_rfl) (by kernel_rfl) (by kernel_rfl) (fun _ _ _ h=>h) (Or.inr ⟨by rfl,rfl⟩) hHeld ?_
              try simp only[Act.put,zzA,zzB,zzC,zzD,zzE,zzF]
              refine wpAnyH_take (i:=27) (v:=undef) rfl (by kernel_rfl) (by kernel_rfl) (by kernel_rfl) (fun _ _ _ h=>h) (Or.inr ⟨by rfl,rfl⟩) hHeld ?_
              try simp only[Act.put,zzA,zzB,zzC,zzD,zzE,zzF]
              refine wpAnyH_take (i:=28) (v:=undef) rfl (by kernel_rfl) (by kernel_rfl) (by kernel_rfl) (fun _ _ _ h=>h) (Or.inr ⟨by rfl,rfl⟩) hHeld ?_
              try simp only[Act.put,zzA,zzB,zzC,zzD,zzE,zzF]
              refine wpAnyH_take (i:=29) (v:=undef) rfl (by kernel_rfl) (by kernel_rfl) (by kernel_rfl) (fun _ _ _ h=>h) (Or.inr ⟨by rfl,rfl⟩) hHeld ?_
              try simp only[Act.put,zzA,zzB,zzC,zzD,zzE,zzF]
              refine wpAnyH_take (i:=30) (v:=?_) rfl (by kernel_rfl) (by kernel_rfl) (by kernel_rfl) (fun _ _ _ h=>h) (Or.inl ⟨by rfl,?_⟩) hHeld ?_
              rotate_left 1
              · (intro w hSw;(try dsimp only at hSw);go_simp;try with_reducible rfl)
              try simp only[Act.put,zzA,zzB,zzC,zzD,zzE,zzF]
              refine wpAnyH_take (i:=31) (v:=?_) rfl (by kernel_rfl) (by kernel_rfl) (by kernel_rfl) (fun _ _ _ h=>h) (Or.inl ⟨by rfl,?_⟩) hHeld ?_
              rotate_left 1
              · (intro w hSw;(try dsimp only at hSw);go_simp;try with_reducible rfl)
              try simp only[Act.put,zzA,zzB,zzC,zzD,zzE,zzF]
              refine wpAnyH_take (i:=32) (v:=undef) rfl (by kernel_rfl) (by kernel_rfl) (by kernel_rfl) (fun _ _ _ h=>h) (Or.inr ⟨by rfl,rfl⟩) hHeld ?_
              try simp only[Act.put,zzA,zzB,zzC,zzD,zzE,zzF]
              refine wpAnyH_take (i:=33) (v:=undef) rfl (by kernel_rfl) (by kernel_rfl) (by kernel_rfl) (fun _ _ _ h=>h) (Or.inr ⟨by rfl,rfl⟩) hHeld ?_
              try simp only[Act.put,zzA,zzB,zzC,zzD,zzE,zzF]
              refine wpAnyH_take (i:=34) (v:=undef) rfl (by kernel_rfl) (by kernel_rfl) (by kernel_rfl) (fun _ _ _ h=>h) (Or.inr ⟨by rfl,rfl⟩) hHeld ?_
              try simp only[Act.put,zzA,zzB,zzC,zzD,zzE,zzF]
              refine wpAnyH_take (i:=35) (v:=undef) rfl (by kernel_rfl) (by kernel_rfl) (by kernel_rfl) (fun _ _ _ h=>h) (Or.inr ⟨by rfl,rfl⟩) hHeld ?_
              try simp only[Act.put,zzA,zzB,zzC,zzD,zzE,zzF]
              refine wpAnyH_take (i:=36) (v:=?_) rfl (by kernel_rfl) (by kernel_rfl) (by kernel_rfl) (fun _ _ _ h=>h) (Or.inl ⟨by rfl,?_⟩) hHeld ?_
              rotate_left 1
              · (intro w hSw;(try dsimp only at hSw);go_simp;try with_reducible rfl)
              try simp only[Act.put,zzA,zzB,zzC,zzD,zzE,zzF]
              refine wpAnyH_done (by kernel_rfl) ?_ _
              refine NoPanic.normal ?_
              go_wp2_with fail
              go_ret
              exact⟨by rw[HF.out]<;>rfl,HGB.out.trans g5⟩
            | true=>
              rw[hb1] at KN
              cases hb2:(x.ps.all fun p=>nameB p.key)with
              | false=>
                rw[hb2] at K2
                have HF:Hid (bb=false):=HBB.out (by rw[HR.out,hst];simp only[nodeOk,propsOk,hb2,Bool.false_and,Bool.and_false])
                clear hb1 hb2 hst
                have HS:Hid (∀V,G wb V→(∀o,V.cell? ⟨B5,o,none⟩=([I x.id,.string x.lb,.slice pa pn pc]:List Value)[o]?)∧(∀o9,V.cell? ⟨B1,o9,none⟩=([.slice (some ⟨g,o,none⟩) sn sc,.slice ta tn tc]:List Value)[o9]?)∧V.cell? ⟨g,o+j*3,none⟩=some (I y.id)∧G wb V):=fun V h=>⟨(HB5.out.G h).cell,(HB1W.out.G h).cell,cell_G y0 h,h⟩
                go_wp2_with fail
                rw[HEB.out]
                try rw[HE5.out]
                refine wp_region_noPanic ?_
                refine wp_region_held_drew (S:=(fun V=>(∀o,V.cell? ⟨B5,o,none⟩=([I x.id,.string x.lb,.slice pa pn pc]:List Value)[o]?)∧(∀o9,V.cell? ⟨B1,o9,none⟩=([.slice (some ⟨g,o,none⟩) sn sc,.slice ta tn tc]:List Value)[o9]?)∧V.cell? ⟨g,o+j*3,none⟩=some (I y.id)∧G wb V)) (by kernel_rfl) (HS.out _ ((G.refl _).drew)) (fun hHeld=>?_)
                refine wpAnyH_take (i:=0) (v:=?_) rfl (by kernel_rfl) (by kernel_rfl) (by kernel_rfl) (fun _ _ _ h=>h) (Or.inl ⟨by rfl,?_⟩) hHeld ?_
                rotate_left 1
                · (intro w hSw;obtain⟨q1,q2,q3,-⟩:=hSw;go_simp;try with_reducible rfl)
                try simp only[Act.put,zzA,zzB,zzD,zzE,zzF]
                refine wpAnyH_take (i:=1) (v:=?_) rfl (by kernel_rfl) (by kernel_rfl) (by kernel_rfl) (fun _ _ _ h=>h) (Or.inl ⟨by rfl,?_⟩) hHeld ?_
                rotate_left 1
                · (intro w hSw;obtain⟨q1,q2,q3,-⟩:=hSw;go_simp;try with_reducible rfl)
                try simp only[Act.put,zzA,zzB,zzC,zzD,zzE,zzF]
                refine wpAnyH_take (i:=2) (v:=(.bool false)) rfl (by kernel_rfl) (by kernel_rfl) (by kernel_rfl) (fun _ _ _ h=>h) (Or.inl ⟨by rfl,?_⟩) hHeld ?_
                · (intro w hSw;first|(go_simp;done)|(go_simp;exact a1)|(go_simp;simp[a1]))
                try simp only[Act.put,zzA,zzB,zzC,zzD,zzE,zzF]
                refine wpAnyH_take (i:=3) (v:=?_) rfl (by kernel_rfl) (by kernel_rfl) (by kernel_rfl) (fun _ _ _ h=>h) (Or.inl ⟨by rfl,?_⟩) hHeld ?_
                rotate_left 1
                · (intro w hSw;(try dsimp only at hSw);go_simp;try with_reducible rfl)
                try simp only[Act.put,zzA,zzB,zzC,zzD,zzE,zzF]
                refine wpAnyH_take (i:=4) (v:=?_) rfl (by kernel_rfl) (by kernel_rfl) (by kernel_rfl) (fun _ _ _ h=>h) (Or.inl ⟨by rfl,?_⟩) hHeld ?_
                rotate_left 1
                · (intro w hSw;(try dsimp only at hSw);go_simp;try with_reducible rfl)
                try simp only[Act.put,zzA,zzB,zzC,zzD,zzE,zzF]
                refine wpAnyH_take (i:=5) (v:=(.bool true)) rfl (by kernel_rfl) (by kernel_rfl) (by kernel_rfl) (fun _ _ _ h=>h) (Or.inl ⟨by rfl,?_⟩) hHeld ?_
                · (intro w hSw;first|(go_simp;done)|(go_simp;exact n1)|(go_simp;exact n0)|(go_simp;simp[n1,n0]))
                try simp only[Act.put,zzA,zzB,zzC,zzD,zzE,zzF]
                refine wpAnyH_take (i:=6) (v:=?_) rfl (by kernel_rfl) (by kernel_rfl) (by kernel_rfl) (fun _ _ _ h=>h) (Or.inl ⟨by rfl,?_⟩) hHeld ?_
                rotate_left 1
                · (intro w hSw;(try dsimp only at hSw);go_simp;try with_reducible rfl)
                try simp only[Act.put,zzA,zzB,zzC,zzD,zzE,zzF]
                refine wpAnyH_take (i:=7) (v:=?_) rfl (by kernel_rfl) (by kernel_rfl) (by kernel_rfl) (fun _ _ _ h=>h) (Or.inl ⟨by rfl,?_⟩) hHeld ?_
                rotate_left 1
                · (intro w hSw;(try dsimp only at hSw);go_simp;try with_reducible rfl)
                try simp only[Act.put,zzA,zzB,zzC,zzD,zzE,zzF]
                refine wpAnyH_take (i:=8) (v:=?_) rfl (by kernel_rfl) (by kernel_rfl) (by kernel_rfl) (fun _ _ _ h=>h) (Or.inl ⟨by rfl,?_⟩) hHeld ?_
                rotate_left 1
                · (intro w hSw;obtain⟨q1,q2,q3,-⟩:=hSw;go_simp;try with_reducible rfl)
                try simp only[Act.put,zzA,zzB,zzC,zzD,zzE,zzF]
                refine wpAnyH_take (i:=9) (v:=?_) rfl (by kernel_rfl) (by kernel_rfl) (by kernel_rfl) (fun _ _ _ h=>h) (Or.inl ⟨by rfl,?_⟩) hHeld ?_
                rotate_left 1
                · (intro w hSw;(try dsimp only at hSw);go_simp;try with_reducible rfl)
                try simp only[Act.put,zzA,zzB,zzC,zzD,zzE,zzF]
                refine wpAnyH_take (i:=10) (v:=?_) rfl (by kernel_rfl) (by kernel_rfl) (by kernel_rfl) (fun _ _ _ h=>h) (Or.inl ⟨by rfl,?_⟩) hHeld ?_
                rotate_left 1
                · (intro w hSw;(try dsimp only at hSw);go_simp;try with_reducible rfl)
                try simp only[Act.put,zzA,zzB,zzC,zzD,zzE,zzF]
                refine wpAnyH_take (i:=11) (v:=?_) rfl (by kernel_rfl) (by kernel_rfl) (by kernel_rfl) (fun _ _ _ h=>h) (Or.inl ⟨by rfl,?_⟩) hHeld ?_
                rotate_left 1
                · (intro w hSw;(try dsimp only at hSw);go_simp;try with_reducible rfl)
                try simp only[Act.put,zzA,zzB,zzC,zzD,zzE,zzF]
                refine wpAnyH_take (i:=12) (v:=?_) rfl (by kernel_rfl) (by kernel_rfl) (by kernel_rfl) (fun _ _ _ h=>h) (Or.inl ⟨by rfl,?_⟩) hHeld ?_
                rotate_left 1
                · (intro w hSw;(try dsimp only at hSw);go_simp;try with_reducible rfl)
                try simp only[Act.put,zzA,zzB,zzC,zzD,zzE,zzF]
                refine wpAnyH_take (i:=13) (v:=?_) rfl (by kernel_rfl) (by kernel_rfl) (by kernel_rfl) (fun _ _ _ h=>h) (Or.inl ⟨by rfl,?_⟩) hHeld ?_
                rotate_left 1
                · (intro w hSw;obtain⟨q1,q2,q3,-⟩:=hSw;go_simp;try with_reducible rfl)
                try simp only[Act.put,zzA,zzB,zzC,zzD,zzE,zzF]
                refine wpAnyH_take (i:=14) (v:=?_) rfl (by kernel_rfl) (by kernel_rfl) (by kernel_rfl) (fun _ _ _ h=>h) (Or.inl ⟨by rfl,?_⟩) hHeld ?_
                rotate_left 1
                · (intro w hSw;(try dsimp only at hSw);go_simp;try with_reducible rfl)
                try simp only[Act.put,zzA,zzB,zzC,zzD,zzE,zzF]
                refine wpAnyH_take (i:=15) (v:=?_) rfl (by kernel_rfl) (by kernel_rfl) (by kernel_rfl) (fun _ _ _ h=>h) (Or.inl ⟨by rfl,?_⟩) hHeld ?_
                rotate_left 1
                · (intro w hSw;obtain⟨q1,q2,q3,-⟩:=hSw;go_simp;try with_reducible rfl)
                try simp only[Act.put,zzA,zzB,zzC,zzD,zzE,zzF]
                refine wpAnyH_take (i:=16) (v:=(.bool false)) rfl (by kernel_rfl) (by kernel_rfl) (by kernel_rfl) (fun _ _ _ h=>h) (Or.inl ⟨by rfl,?_⟩) hHeld ?_
                · (intro w hSw;first|(go_simp;done)|(go_simp;exact hk)|(go_simp;simp[hk]))
                try simp only[Act.put,zzA,zzB,zzC,zzD,zzE,zzF]
                refine wpAnyH_take (i:=17) (v:=?_) rfl (by kernel_rfl) (by kernel_rfl) (by kernel_rfl) (fun _ _ _ h=>h) (Or.inl ⟨by rfl,?_⟩) hHeld ?_
                rotate_left 1
                · (intro w hSw;(try dsimp only at hSw);go_simp;try with_reducible rfl)
                try simp only[Act.put,zzA,zzB,zzC,zzD,zzE,zzF]
                refine wpAnyH_take (i:=18) (v:=?_) rfl (by kernel_rfl) (by kernel_rfl) (by kernel_rfl) (fun _ _ _ h=>h) (Or.inl ⟨by rfl,?_⟩) hHeld ?_
                rotate_left 1
                · (intro w hSw;(try dsimp only at hSw);go_simp;try with_reducible rfl)
                try simp only[Act.put,zzA,zzB,zzC,zzD,zzE,zzF]
                refine wpAnyH_take (i:=19) (v:=?_) rfl (by kernel_rfl) (by kernel_rfl) (by kernel_rfl) (fun _ _ _ h=>h) (Or.inl ⟨by rfl,?_⟩) hHeld ?_
                rotate_left 1
                · (intro w hSw;(try dsimp only at hSw);go_simp;try with_reducible rfl)
                try simp only[Act.put,zzA,zzB,zzC,zzD,zzE,zzF]
                refine wpAnyH_take (i:=20) (v:=?_) rfl (by kernel_rfl) (by kernel_rfl) (by kernel_rfl) (fun _ _ _ h=>h) (Or.inl ⟨by rfl,?_⟩) hHeld ?_
                rotate_left 1
                · (intro w hSw;(try dsimp only at hSw);go_simp;try with_reducible rfl)
                try simp only[Act.put,zzA,zzB,zzC,zzD,zzE,zzF]
                refine wpAnyH_take (i:=21) (v:=?_) rfl (by kernel_rfl) (by kernel_rfl) (by kernel_rfl) (fun _ _ _ h=>h) (Or.inl ⟨by rfl,?_⟩) hHeld ?_
                rotate_left 1
                · (intro w hSw;obtain⟨q1,q2,q3,-⟩:=hSw;go_simp;try with_reducible rfl)
                try simp only[Act.put,zzA,zzB,zzC,zzD,zzE,zzF]
                refine wpAnyH_ready (rs:=[22]) (by kernel_rfl) (by simp) (AllReadyH.cons rfl (fun K hK=>?_) AllReadyH.nil)
                clear hHeld
                (try refine(if_pos rfl).mpr ?_)
                go_simp
                refine(KN.out _ ((G.refl wb).drew)).mono ?_
                rintro e w5 ⟨rfl,g5'⟩
                have g5:G wb w5:=((G.refl wb).drew).trans g5'
                clear g5'
                go_wp2_with fail
                refine hK.out _ _ (HS.out w5 g5) (fun hHeld=>?_)
                clear hK K
                try simp only[Act.put,zzA,zzB,zzC,zzD,zzE,zzF]
                refine wpAnyH_take (i:=23) (v:=?_) rfl (by kernel_rfl) (by kernel_rfl) (by kernel_rfl) (fun _ _ _ h=>h) (Or.inl ⟨by rfl,?_⟩) hHeld ?_
                rotate_left 1
                · (intro w hSw;(try dsimp only at hSw);go_simp;try with_reducible rfl)
                try simp only[Act.put,zzA,zzB,zzC,zzD,zzE,zzF]
                refine wpAnyH_take (i:=24) (v:=?_) rfl (by kernel_rfl) (by kernel_rfl) (by kernel_rfl) (fun _ _ _ h=>h) (Or.inl ⟨by rfl,?_⟩) hHeld ?_
                rotate_left 1
                · (intro w hSw;(try dsimp only at hSw);go_simp;try with_reducible rfl)
                try simp only[Act.put,zzA,zzB,zzC,zzD,zzE,zzF]
                refine wpAnyH_take (i:=25) (v:=?_) rfl (by kernel_rfl) (by kernel_rfl) (by kernel_rfl) (fun _ _ _ h=>h) (Or.inl ⟨by rfl,?_⟩) hHeld ?_
                rotate_left 1
                · (intro w hSw;(try dsimp only at hSw);go_simp;try with_reducible rfl)
                try simp only[Act.put,zzA,zzB,zzC,zzD,zzE,zzF]
                refine wpAnyH_take (i:=26) (v:=?_) rfl (by kernel_rfl) (by kernel_rfl) (by kernel_rfl) (fun _ _ _ h=>h) (Or.inl ⟨by rfl,?_⟩) hHeld ?_
                rotate_left 1
                · (intro w hSw;(try dsimp only at hSw);go_simp;try with_reducible rfl)
                try simp only[Act.put,zzA,zzB,zzC,zzD,zzE,zzF]
                refine wpAnyH_take (i:=27) (v:=?_) rfl (by kernel_rfl) (by kernel_rfl) (by kernel_rfl) (fun _ _ _ h=>h) (Or.inl ⟨by rfl,?_⟩) hHeld ?_
                rotate_left 1
                · (intro w hSw;obtain⟨q1,q2,q3,-⟩:=hSw;go_simp;try with_reducible rfl)
                try simp only[Act.put,zzA,zzB,zzC,zzD,zzE,zzF]
                refine wpAnyH_ready (rs:=[28]) (by kernel_rfl) (by simp) (AllReadyH.cons rfl (fun K hK=>?_) AllReadyH.nil)
                clear hHeld
                (try refine(if_pos rfl).mpr ?_)
                go_simp
                refine(K2.out _ g5).mono ?_
                rintro e w6 ⟨rfl,g6'⟩
                have g6:G wb w6:=g5.trans g6'
                clear g6'
                go_wp2_with fail
                refine hK.out _ _ (HS.out w6 g6) (fun hHeld=>?_)
                clear hK K
                try simp only[Act.put,zzA,zzB,zzC,zzD,zzE,zzF]
                refine wpAnyH_take (i:=29) (v:=?_) rfl (by kernel_rfl) (by kernel_rfl) (by kernel_rfl) (fun _ _ _ h=>h) (Or.inl ⟨by rfl,?_⟩) hHeld ?_
                rotate_left 1
                · (intro w hSw;(try dsimp only at hSw);go_simp;try with_reducible rfl)
                try simp only[Act.put,zzA,zzB,zzC,zzD,zzE,zzF]
                refine wpAnyH_take (i:=30) (v:=?_) rfl (by kernel_rfl) (by kernel_rfl) (by kernel_rfl) (fun _ _ _ h=>h) (Or.inl ⟨by rfl,?_⟩) hHeld ?_
                rotate_left 1
                · (intro w hSw;(try dsimp only at hSw);go_simp;try with_reducible rfl)
                try simp only[Act.put,zzA,zzB,zzC,zzD,zzE,zzF]
                refine wpAnyH_take (i:=31) (v:=?_) rfl (by kernel_rfl) (by kernel_rfl) (by kernel_rfl) (fun _ _ _ h=>h) (Or.inl ⟨by rfl,?_⟩) hHeld ?_
                rotate_left 1
                · (intro w hSw;(try dsimp only at hSw);go_simp;try with_reducible rfl)
                try simp only[Act.put,zzA,zzB,zzC,zzD,zzE,zzF]
                refine wpAnyH_take (i:=32) (v:=undef) rfl (by kernel_rfl) (by kernel_rfl) (by kernel_rfl) (fun _ _ _ h=>h) (Or.inr ⟨by rfl,rfl⟩) hHeld ?_
                try simp only[Act.put,zzA,zzB,zzC,zzD,zzE,zzF]
                refine wpAnyH_take (i:=33) (v:=undef) rfl (by kernel_rfl) (by kernel_rfl) (by kernel_rfl) (fun _ _ _ h=>h) (Or.inr ⟨by rfl,rfl⟩) hHeld ?_
                try simp only[Act.put,zzA,zzB,zzC,zzD,zzE,zzF]
                refine wpAnyH_take (i:=34) (v:=undef) rfl (by kernel_rfl) (by kernel_rfl) (by kernel_rfl) (fun _ _ _ h=>h) (Or.inr ⟨by rfl,rfl⟩) hHeld ?_
                try simp only[Act.put,zzA,zzB,zzC,zzD,zzE,zzF]
                refine wpAnyH_take (i:=35) (v:=undef) rfl (by kernel_rfl) (by kernel_rfl) (by kernel_rfl) (fun _ _ _ h=>h) (Or.inr ⟨by rfl,rfl⟩) hHeld ?_
                try simp only[Act.put,zzA,zzB,zzC,zzD,zzE,zzF]
                refine wpAnyH_take (i:=36) (v:=?_) rfl (by kernel_rfl) (by kernel_rfl) (by kernel_rfl) (fun _ _ _ h=>h) (Or.inl ⟨by rfl,?_⟩) hHeld ?_
                rotate_left 1
                · (intro w hSw;(try dsimp only at hSw);go_simp;try with_reducible rfl)
                try simp only[Act.put,zzA,zzB,zzC,zzD,zzE,zzF]
                refine wpAnyH_done (by kernel_rfl) ?_ _
                refine NoPanic.normal ?_
                go_wp2_with fail
                go_ret
                exact⟨by rw[HF.out]<;>rfl,HGB.out.trans g6⟩
              | true=>
                rw[hb2] at K2
                cases hb3:goodB x.ps with
                | false=>
                  rw[hb3] at K3
                  have HF:Hid (bb=false):=HBB.out (by rw[HR.out,hst];simp only[nodeOk,propsOk,hb3,Bool.false_and,Bool.and_false])
                  clear hb1 hb2 hb3 hst
                  have HS:Hid (∀V,G wb V→(∀o,V.cell? ⟨B5,o,none⟩=([I x.id,.string x.lb,.slice pa pn pc]:List Value)[o]?)∧(∀o9,V.cell? ⟨B1,o9,none⟩=([.slice (some ⟨g,o,none⟩) sn sc,.slice ta tn tc]:List Value)[o9]?)∧V.cell? ⟨g,o+j*3,none⟩=some (I y.id)∧G wb V):=fun V h=>⟨(HB5.out.G h).cell,(HB1W.out.G h).cell,cell_G y0 h,h⟩
                  go_wp2_with fail
                  rw[HEB.out]
                  try rw[HE5.out]
                  refine wp_region_noPanic ?_
                  refine wp_region_held_drew (S:=(fun V=>(∀o,V.cell? ⟨B5,o,none⟩=([I x.id,.string x.lb,.slice pa pn pc]:List Value)[o]?)∧(∀o9,V.cell? ⟨B1,o9,none⟩=([.slice (some ⟨g,o,none⟩) sn sc,.slice ta tn tc]:List Value)[o9]?)∧V.cell? ⟨g,o+j*3,none⟩=some (I y.id)∧G wb V)) (by kernel_rfl) (HS.out _ ((G.refl _).drew)) (fun hHeld=>?_)
                  refine wpAnyH_take (i:=0) (v:=?_) rfl (by kernel_rfl) (by kernel_rfl) (by kernel_rfl) (fun _ _ _ h=>h) (Or.inl ⟨by rfl,?_⟩) hHeld ?_
                  rotate_left 1
                  · (intro w hSw;obtain⟨q1,q2,q3,-⟩:=hSw;go_simp;try with_reducible rfl)
                  try simp only[Act.put,zzA,zzB,zzD,zzE,zzF]
                  refine wpAnyH_take (i:=1) (v:=?_) rfl (by kernel_rfl) (by kernel_rfl) (by kernel_rfl) (fun _ _ _ h=>h) (Or.inl ⟨by rfl,?_⟩) hHeld ?_
                  rotate_left 1
                  · (intro w hSw;obtain⟨q1,q2,q3,-⟩:=hSw;go_simp;try with_reducible rfl)
                  try simp only[Act.put,zzA,zzB,zzC,zzD,zzE,zzF]
                  refine wpAnyH_take (i:=2) (v:=(.bool false)) rfl (by kernel_rfl) (by kernel_rfl) (by kernel_rfl) (fun _ _ _ h=>h) (Or.inl ⟨by rfl,?_⟩) hHeld ?_
                  · (intro w hSw;first|(go_simp;done)|(go_simp;exact a1)|(go_simp;simp[a1]))
                  try simp only[Act.put,zzA,zzB,zzC,zzD,zzE,zzF]
                  refine wpAnyH_take (i:=3) (v:=?_) rfl (by kernel_rfl) (by kernel_rfl) (by kernel_rfl) (fun _ _ _ h=>h) (Or.inl ⟨by rfl,?_⟩) hHeld ?_
                  rotate_left 1
                  · (intro w hSw;(try dsimp only at hSw);go_simp;try with_reducible rfl)
                  try simp only[Act.put,zzA,zzB,zzC,zzD,zzE,zzF]
                  refine wpAnyH_take (i:=4) (v:=?_) rfl (by kernel_rfl) (by kernel_rfl) (by kernel_rfl) (fun _ _ _ h=>h) (Or.inl ⟨by rfl,?_⟩) hHeld ?_
                  rotate_left 1
                  · (intro w hSw;(try dsimp only at hSw);go_simp;try with_reducible rfl)
                  try simp only[Act.put,zzA,zzB,zzC,zzD,zzE,zzF]
                  refine wpAnyH_take (i:=5) (v:=(.bool true)) rfl (by kernel_rfl) (by kernel_rfl) (by kernel_rfl) (fun _ _ _ h=>h) (Or.inl ⟨by rfl,?_⟩) hHeld ?_
                  · (intro w hSw;first|(go_simp;done)|(go_simp;exact n1)|(go_simp;exact n0)|(go_simp;simp[n1,n0]))
                  try simp only[Act.put,zzA,zzB,zzC,zzD,zzE,zzF]
                  refine wpAnyH_take (i:=6) (v:=?_) rfl (by kernel_rfl) (by kernel_rfl) (by kernel_rfl) (fun _ _ _ h=>h) (Or.inl ⟨by rfl,?_⟩) hHeld ?_
                  rotate_left 1
                  · (intro w hSw;(try dsimp only at hSw);go_simp;try with_reducible rfl)
                  try simp only[Act.put,zzA,zzB,zzC,zzD,zzE,zzF]
                  refine wpAnyH_take (i:=7) (v:=?_) rfl (by kernel_rfl) (by kernel_rfl) (by kernel_rfl) (fun _ _ _ h=>h) (Or.inl ⟨by rfl,?_⟩) hHeld ?_
                  rotate_left 1
                  · (intro w hSw;(try dsimp only at hSw);go_simp;try with_reducible rfl)
                  try simp only[Act.put,zzA,zzB,zzC,zzD,zzE,zzF]
                  refine wpAnyH_take (i:=8) (v:=?_) rfl (by kernel_rfl) (by kernel_rfl) (by kernel_rfl) (fun _ _ _ h=>h) (Or.inl ⟨by rfl,?_⟩) hHeld ?_
                  rotate_left 1
                  · (intro w hSw;obtain⟨q1,q2,q3,-⟩:=hSw;go_simp;try with_reducible rfl)
                  try simp only[Act.put,zzA,zzB,zzC,zzD,zzE,zzF]
                  refine wpAnyH_take (i:=9) (v:=?_) rfl (by kernel_rfl) (by kernel_rfl) (by kernel_rfl) (fun _ _ _ h=>h) (Or.inl ⟨by rfl,?_⟩) hHeld ?_
                  rotate_left 1
                  · (intro w hSw;(try dsimp only at hSw);go_simp;try with_reducible rfl)
                  try simp only[Act.put,zzA,zzB,zzC,zzD,zzE,zzF]
                  refine wpAnyH_take (i:=10) (v:=?_) rfl (by kernel_rfl) (by kernel_rfl) (by kernel_rfl) (fun _ _ _ h=>h) (Or.inl ⟨by rfl,?_⟩) hHeld ?_
                  rotate_left 1
                  · (intro w hSw;(try dsimp only at hSw);go_simp;try with_reducible rfl)
                  try simp only[Act.put,zzA,zzB,zzC,zzD,zzE,zzF]
                  refine wpAnyH_take (i:=11) (v:=?_) rfl (by kernel_rfl) (by kernel_rfl) (by kernel_rfl) (fun _ _ _ h=>h) (Or.inl ⟨by rfl,?_⟩) hHeld ?_
                  rotate_left 1
                  · (intro w hSw;(try dsimp only at hSw);go_simp;try with_reducible rfl)
                  try simp only[Act.put,zzA,zzB,zzC,zzD,zzE,zzF]
                  refine wpAnyH_take (i:=12) (v:=?_) rfl (by kernel_rfl) (by kernel_rfl) (by kernel_rfl) (fun _ _ _ h=>h) (Or.inl ⟨by rfl,?_⟩) hHeld ?_
                  rotate_left 1
                  · (intro w hSw;(try dsimp only at hSw);go_simp;try with_reducible rfl)
                  try simp only[Act.put,zzA,zzB,zzC,zzD,zzE,zzF]
                  refine wpAnyH_take (i:=13) (v:=?_) rfl (by kernel_rfl) (by kernel_rfl) (by kernel_rfl) (fun _ _ _ h=>h) (Or.inl ⟨by rfl,?_⟩) hHeld ?_
                  rotate_left 1
                  · (intro w hSw;obtain⟨q1,q2,q3,-⟩:=hSw;go_simp;try with_reducible rfl)
                  try simp only[Act.put,zzA,zzB,zzC,zzD,zzE,zzF]
                  refine wpAnyH_take (i:=14) (v:=?_) rfl (by kernel_rfl) (by kernel_rfl) (by kernel_rfl) (fun _ _ _ h=>h) (Or.inl ⟨by rfl,?_⟩) hHeld ?_
                  rotate_left 1
                  · (intro w hSw;(try dsimp only at hSw);go_simp;try with_reducible rfl)
                  try simp only[Act.put,zzA,zzB,zzC,zzD,zzE,zzF]
                  refine wpAnyH_take (i:=15) (v:=?_) rfl (by kernel_rfl) (by kernel_rfl) (by kernel_rfl) (fun _ _ _ h=>h) (Or.inl ⟨by rfl,?_⟩) hHeld ?_
                  rotate_left 1
                  · (intro w hSw;obtain⟨q1,q2,q3,-⟩:=hSw;go_simp;try with_reducible rfl)
                  try simp only[Act.put,zzA,zzB,zzC,zzD,zzE,zzF]
                  refine wpAnyH_take (i:=16) (v:=(.bool false)) rfl (by kernel_rfl) (by kernel_rfl) (by kernel_rfl) (fun _ _ _ h=>h) (Or.inl ⟨by rfl,?_⟩) hHeld ?_
                  · (intro w hSw;first|(go_simp;done)|(go_simp;exact hk)|(go_simp;simp[hk]))
                  try simp only[Act.put,zzA,zzB,zzC,zzD,zzE,zzF]
                  refine wpAnyH_take (i:=17) (v:=?_) rfl (by kernel_rfl) (by kernel_rfl) (by kernel_rfl) (fun _ _ _ h=>h) (Or.inl ⟨by rfl,?_⟩) hHeld ?_
                  rotate_left 1
                  · (intro w hSw;(try dsimp only at hSw);go_simp;try with_reducible rfl)
                  try simp only[Act.put,zzA,zzB,zzC,zzD,zzE,zzF]
                  refine wpAnyH_take (i:=18) (v:=?_) rfl (by kernel_rfl) (by kernel_rfl) (by kernel_rfl) (fun _ _ _ h=>h) (Or.inl ⟨by rfl,?_⟩) hHeld ?_
                  rotate_left 1
                  · (intro w hSw;(try dsimp only at hSw);go_simp;try with_reducible rfl)
                  try simp only[Act.put,zzA,zzB,zzC,zzD,zzE,zzF]
                  refine wpAnyH_take (i:=19) (v:=?_) rfl (by kernel_rfl) (by kernel_rfl) (by kernel_rfl) (fun _ _ _ h=>h) (Or.inl ⟨by rfl,?_⟩) hHeld ?_
                  rotate_left 1
                  · (intro w hSw;(try dsimp only at hSw);go_simp;try with_reducible rfl)
                  try simp only[Act.put,zzA,zzB,zzC,zzD,zzE,zzF]
                  refine wpAnyH_take (i:=20) (v:=?_) rfl (by kernel_rfl) (by kernel_rfl) (by kernel_rfl) (fun _ _ _ h=>h) (Or.inl ⟨by rfl,?_⟩) hHeld ?_
                  rotate_left 1
                  · (intro w hSw;(try dsimp only at hSw);go_simp;try with_reducible rfl)
                  try simp only[Act.put,zzA,zzB,zzC,zzD,zzE,zzF]
                  refine wpAnyH_take (i:=21) (v:=?_) rfl (by kernel_rfl) (by kernel_rfl) (by kernel_rfl) (fun _ _ _ h=>h) (Or.inl ⟨by rfl,?_⟩) hHeld ?_
                  rotate_left 1
                  · (intro w hSw;obtain⟨q1,q2,q3,-⟩:=hSw;go_simp;try with_reducible rfl)
                  try simp only[Act.put,zzA,zzB,zzC,zzD,zzE,zzF]
                  refine wpAnyH_ready (rs:=[22]) (by kernel_rfl) (by simp) (AllReadyH.cons rfl (fun K hK=>?_) AllReadyH.nil)
                  clear hHeld
                  (try refine(if_pos rfl).mpr ?_)
                  go_simp
                  refine(KN.out _ ((G.refl wb).drew)).mono ?_
                  rintro e w5 ⟨rfl,g5'⟩
                  have g5:G wb w5:=((G.refl wb).drew).trans g5'
                  clear g5'
                  go_wp2_with fail
                  refine hK.out _ _ (HS.out w5 g5) (fun hHeld=>?_)
                  clear hK K
                  try simp only[Act.put,zzA,zzB,zzC,zzD,zzE,zzF]
                  refine wpAnyH_take (i:=23) (v:=?_) rfl (by kernel_rfl) (by kernel_rfl) (by kernel_rfl) (fun _ _ _ h=>h) (Or.inl ⟨by rfl,?_⟩) hHeld ?_
                  rotate_left 1
                  · (intro w hSw;(try dsimp only at hSw);go_simp;try with_reducible rfl)
                  try simp only[Act.put,zzA,zzB,zzC,zzD,zzE,zzF]
                  refine wpAnyH_take (i:=24) (v:=?_) rfl (by kernel_rfl) (by kernel_rfl) (by kernel_rfl) (fun _ _ _ h=>h) (Or.inl ⟨by rfl,?_⟩) hHeld ?_
                  rotate_left 1
                  · (intro w hSw;(try dsimp only at hSw);go_simp;try with_reducible rfl)
                  try simp only[Act.put,zzA,zzB,zzC,zzD,zzE,zzF]
                  refine wpAnyH_take (i:=25) (v:=?_) rfl (by kernel_rfl) (by kernel_rfl) (by kernel_rfl) (fun _ _ _ h=>h) (Or.inl ⟨by rfl,?_⟩) hHeld ?_
                  rotate_left 1
                  · (intro w hSw;(try dsimp only at hSw);go_simp;try with_reducible rfl)
                  try simp only[Act.put,zzA,zzB,zzC,zzD,zzE,zzF]
                  refine wpAnyH_take (i:=26) (v:=?_) rfl (by kernel_rfl) (by kernel_rfl) (by kernel_rfl) (fun _ _ _ h=>h) (Or.inl ⟨by rfl,?_⟩) hHeld ?_
                  rotate_left 1
                  · (intro w hSw;(try dsimp only at hSw);go_simp;try with_reducible rfl)
                  try simp only[Act.put,zzA,zzB,zzC,zzD,zzE,zzF]
                  refine wpAnyH_take (i:=27) (v:=?_) rfl (by kernel_rfl) (by kernel_rfl) (by kernel_rfl) (fun _ _ _ h=>h) (Or.inl ⟨by rfl,?_⟩) hHeld ?_
                  rotate_left 1
                  · (intro w hSw;obtain⟨q1,q2,q3,-⟩:=hSw;go_simp;try with_reducible rfl)
                  try simp only[Act.put,zzA,zzB,zzC,zzD,zzE,zzF]
                  refine wpAnyH_ready (rs:=[28]) (by kernel_rfl) (by simp) (AllReadyH.cons rfl (fun K hK=>?_) AllReadyH.nil)
                  clear hHeld
                  (try refine(if_pos rfl).mpr ?_)
                  go_simp
                  refine(K2.out _ g5).mono ?_
                  rintro e w6 ⟨rfl,g6'⟩
                  have g6:G wb w6:=g5.trans g6'
                  clear g6'
                  go_wp2_with fail
                  refine hK.out _ _ (HS.out w6 g6) (fun hHeld=>?_)
                  clear hK K
                  try simp only[Act.put,zzA,zzB,zzC,zzD,zzE,zzF]
                  refine wpAnyH_take (i:=29) (v:=?_) rfl (by kernel_rfl) (by kernel_rfl) (by kernel_rfl) (fun _ _ _ h=>h) (Or.inl ⟨by rfl,?_⟩) hHeld ?_
                  rotate_left 1
                  · (intro w hSw;(try dsimp only at hSw);go_simp;try with_reducible rfl)
                  try simp only[Act.put,zzA,zzB,zzC,zzD,zzE,zzF]
                  refine wpAnyH_take (i:=30) (v:=?_) rfl (by kernel_rfl) (by kernel_rfl) (by kernel_rfl) (fun _ _ _ h=>h) (Or.inl ⟨by rfl,?_⟩) hHeld ?_
                  rotate_left 1
                  · (intro w hSw;(try dsimp only at hSw);go_simp;try with_reducible rfl)
                  try simp only[Act.put,zzA,zzB,zzC,zzD,zzE,zzF]
                  refine wpAnyH_take (i:=31) (v:=?_) rfl (by kernel_rfl) (by kernel_rfl) (by kernel_rfl) (fun _ _ _ h=>h) (Or.inl ⟨by rfl,?_⟩) hHeld ?_
                  rotate_left 1
                  · (intro w hSw;(try dsimp only at hSw);go_simp;try with_reducible rfl)
                  try simp only[Act.put,zzA,zzB,zzC,zzD,zzE,zzF]
                  refine wpAnyH_take (i:=32) (v:=?_) rfl (by kernel_rfl) (by kernel_rfl) (by kernel_rfl) (fun _ _ _ h=>h) (Or.inl ⟨by rfl,?_⟩) hHeld ?_
                  rotate_left 1
                  · (intro w hSw;(try dsimp only at hSw);go_simp;try with_reducible rfl)
                  try simp only[Act.put,zzA,zzB,zzC,zzD,zzE,zzF]
                  refine wpAnyH_take (i:=33) (v:=?_) rfl (by kernel_rfl) (by kernel_rfl) (by kernel_rfl) (fun _ _ _ h=>h) (Or.inl ⟨by rfl,?_⟩) hHeld ?_
                  rotate_left 1
                  · (intro w hSw;obtain⟨q1,q2,q3,-⟩:=hSw;go_simp;try with_reducible rfl)
                  try simp only[Act.put,zzA,zzB,zzC,zzD,zzE,zzF]
                  refine wpAnyH_ready (rs:=[34]) (by kernel_rfl) (by simp) (AllReadyH.cons rfl (fun K hK=>?_) AllReadyH.nil)
                  clear hHeld
                  (try refine(if_pos rfl).mpr ?_)
                  go_simp
                  refine(K3.out _ g6).mono ?_
                  rintro e w7 ⟨rfl,g7'⟩
                  have g7:G wb w7:=g6.trans g7'
                  clear g7'
                  go_wp2_with fail
                  refine hK.out _ _ (HS.out w7 g7) (fun hHeld=>?_)
                  clear hK K
                  try simp only[Act.put,zzA,zzB,zzC,zzD,zzE,zzF]
                  refine wpAnyH_take (i:=35) (v:=?_) rfl (by kernel_rfl) (by kernel_rfl) (by kernel_rfl) (fun _ _ _ h=>h) (Or.inl ⟨by rfl,?_⟩) hHeld ?_
                  rotate_left 1
                  · (intro w hSw;(try dsimp only at hSw);go_simp;try with_reducible rfl)
                  try simp only[Act.put,zzA,zzB,zzC,zzD,zzE,zzF]
                  refine wpAnyH_take (i:=36) (v:=?_) rfl (by kernel_rfl) (by kernel_rfl) (by kernel_rfl) (fun _ _ _ h=>h) (Or.inl ⟨by rfl,?_⟩) hHeld ?_
                  rotate_left 1
                  · (intro w hSw;(try dsimp only at hSw);go_simp;try with_reducible rfl)
                  try simp only[Act.put,zzA,zzB,zzC,zzD,zzE,zzF]
                  refine wpAnyH_done (by kernel_rfl) ?_ _
                  refine NoPanic.normal ?_
                  go_wp2_with fail
                  go_ret
                  exact⟨by rw[HF.out]<;>rfl,HGB.out.trans g7⟩
                | true=>
                  rw[hb3] at K3
                  have HST:Hid (nodesB ns=fromB (fun y=>y.id) nodeOk ns (i+1)):=by rw[Hid,HR.out,hst];simp[nodeOk,propsOk,hb1,hb2,hb3]
                  clear hb1 hb2 hb3 hst
                  have HS:Hid (∀V,G wb V→(∀o,V.cell? ⟨B5,o,none⟩=([I x.id,.string x.lb,.slice pa pn pc]:List Value)[o]?)∧(∀o9,V.cell? ⟨B1,o9,none⟩=([.slice (some ⟨g,o,none⟩) sn sc,.slice ta tn tc]:List Value)[o9]?)∧V.cell? ⟨g,o+j*3,none⟩=some (I y.id)∧G wb V):=fun V h=>⟨(HB5.out.G h).cell,(HB1W.out.G h).cell,cell_G y0 h,h⟩
                  go_wp2_with fail
                  rw[HEB.out]
                  try rw[HE5.out]
                  refine wp_region_noPanic ?_
                  refine wp_region_held_drew (S:=(fun V=>(∀o,V.cell? ⟨B5,o,none⟩=([I x.id,.string x.lb,.slice pa pn pc]:List Value)[o]?)∧(∀o9,V.cell? ⟨B1,o9,none⟩=([.slice (some ⟨g,o,none⟩) sn sc,.slice ta tn tc]:List Value)[o9]?)∧V.cell? ⟨g,o+j*3,none⟩=some (I y.id)∧G wb V)) (by kernel_rfl) (HS.out _ ((G.refl _).drew)) (fun hHeld=>?_)
                  refine wpAnyH_take (i:=0) (v:=?_) rfl (by kernel_rfl) (by kernel_rfl) (by kernel_rfl) (fun _ _ _ h=>h) (Or.inl ⟨by rfl,?_⟩) hHeld ?_
                  rotate_left 1
                  · (intro w hSw;obtain⟨q1,q2,q3,-⟩:=hSw;go_simp;try with_reducible rfl)
                  try simp only[Act.put,zzA,zzB,zzD,zzE,zzF]
                  refine wpAnyH_take (i:=1) (v:=?_) rfl (by kernel_rfl) (by kernel_rfl) (by kernel_rfl) (fun _ _ _ h=>h) (Or.inl ⟨by rfl,?_⟩) hHeld ?_
                  rotate_left 1
                  · (intro w hSw;obtain⟨q1,q2,q3,-⟩:=hSw;go_simp;try with_reducible rfl)
                  try simp only[Act.put,zzA,zzB,zzC,zzD,zzE,zzF]
                  refine wpAnyH_take (i:=2) (v:=(.bool false)) rfl (by kernel_rfl) (by kernel_rfl) (by kernel_rfl) (fun _ _ _ h=>h) (Or.inl ⟨by rfl,?_⟩) hHeld ?_
                  · (intro w hSw;first|(go_simp;done)|(go_simp;exact a1)|(go_simp;simp[a1]))
                  try simp only[Act.put,zzA,zzB,zzC,zzD,zzE,zzF]
                  refine wpAnyH_take (i:=3) (v:=?_) rfl (by kernel_rfl) (by kernel_rfl) (by kernel_rfl) (fun _ _ _ h=>h) (Or.inl ⟨by rfl,?_⟩) hHeld ?_
                  rotate_left 1
                  · (intro w hSw;(try dsimp only at hSw);go_simp;try with_reducible rfl)
                  try simp only[Act.put,zzA,zzB,zzC,zzD,zzE,zzF]
                  refine wpAnyH_take (i:=4) (v:=?_) rfl (by kernel_rfl) (by kernel_rfl) (by kernel_rfl) (fun _ _ _ h=>h) (Or.inl ⟨by rfl,?_⟩) hHeld ?_
                  rotate_left 1
                  · (intro w hSw;(try dsimp only at hSw);go_simp;try with_reducible rfl)
                  try simp only[Act.put,zzA,zzB,zzC,zzD,zzE,zzF]
                  refine wpAnyH_take (i:=5) (v:=(.bool true)) rfl (by kernel_rfl) (by kernel_rfl) (by kernel_rfl) (fun _ _ _ h=>h) (Or.inl ⟨by rfl,?_⟩) hHeld ?_
                  · (intro w hSw;first|(go_simp;done)|(go_simp;exact n1)|(go_simp;exact n0)|(go_simp;simp[n1,n0]))
                  try simp only[Act.put,zzA,zzB,zzC,zzD,zzE,zzF]
                  refine wpAnyH_take (i:=6) (v:=?_) rfl (by kernel_rfl) (by kernel_rfl) (by kernel_rfl) (fun _ _ _ h=>h) (Or.inl ⟨by rfl,?_⟩) hHeld ?_
                  rotate_left 1
                  · (intro w hSw;(try dsimp only at hSw);go_simp;try with_reducible rfl)
                  try simp only[Act.put,zzA,zzB,zzC,zzD,zzE,zzF]
                  refine wpAnyH_take (i:=7) (v:=?_) rfl (by kernel_rfl) (by kernel_rfl) (by kernel_rfl) (fun _ _ _ h=>h) (Or.inl ⟨by rfl,?_⟩) hHeld ?_
                  rotate_left 1
                  · (intro w hSw;(try dsimp only at hSw);go_simp;try with_reducible rfl)
                  try simp only[Act.put,zzA,zzB,zzC,zzD,zzE,zzF]
                  refine wpAnyH_take (i:=8) (v:=?_) rfl (by kernel_rfl) (by kernel_rfl) (by kernel_rfl) (fun _ _ _ h=>h) (Or.inl ⟨by rfl,?_⟩) hHeld ?_
                  rotate_left 1
                  · (intro w hSw;obtain⟨q1,q2,q3,-⟩:=hSw;go_simp;try with_reducible rfl)
                  try simp only[Act.put,zzA,zzB,zzC,zzD,zzE,zzF]
                  refine wpAnyH_take (i:=9) (v:=?_) rfl (by kernel_rfl) (by kernel_rfl) (by kernel_rfl) (fun _ _ _ h=>h) (Or.inl ⟨by rfl,?_⟩) hHeld ?_
                  rotate_left 1
                  · (intro w hSw;(try dsimp only at hSw);go_simp;try with_reducible rfl)
                  try simp only[Act.put,zzA,zzB,zzC,zzD,zzE,zzF]
                  refine wpAnyH_take (i:=10) (v:=?_) rfl (by kernel_rfl) (by kernel_rfl) (by kernel_rfl) (fun _ _ _ h=>h) (Or.inl ⟨by rfl,?_⟩) hHeld ?_
                  rotate_left 1
                  · (intro w hSw;(try dsimp only at hSw);go_simp;try with_reducible rfl)
                  try simp only[Act.put,zzA,zzB,zzC,zzD,zzE,zzF]
                  refine wpAnyH_take (i:=11) (v:=?_) rfl (by kernel_rfl) (by kernel_rfl) (by kernel_rfl) (fun _ _ _ h=>h) (Or.inl ⟨by rfl,?_⟩) hHeld ?_
                  rotate_left 1
                  · (intro w hSw;(try dsimp only at hSw);go_simp;try with_reducible rfl)
                  try simp only[Act.put,zzA,zzB,zzC,zzD,zzE,zzF]
                  refine wpAnyH_take (i:=12) (v:=?_) rfl (by kernel_rfl) (by kernel_rfl) (by kernel_rfl) (fun _ _ _ h=>h) (Or.inl ⟨by rfl,?_⟩) hHeld ?_
                  rotate_left 1
                  · (intro w hSw;(try dsimp only at hSw);go_simp;try with_reducible rfl)
                  try simp only[Act.put,zzA,zzB,zzC,zzD,zzE,zzF]
                  refine wpAnyH_take (i:=13) (v:=?_) rfl (by kernel_rfl) (by kernel_rfl) (by kernel_rfl) (fun _ _ _ h=>h) (Or.inl ⟨by rfl,?_⟩) hHeld ?_
                  rotate_left 1
                  · (intro w hSw;obtain⟨q1,q2,q3,-⟩:=hSw;go_simp;try with_reducible rfl)
                  try simp only[Act.put,zzA,zzB,zzC,zzD,zzE,zzF]
                  refine wpAnyH_take (i:=14) (v:=?_) rfl (by kernel_rfl) (by kernel_rfl) (by kernel_rfl) (fun _ _ _ h=>h) (Or.inl ⟨by rfl,?_⟩) hHeld ?_
                  rotate_left 1
                  · (intro w hSw;(try dsimp only at hSw);go_simp;try with_reducible rfl)
                  try simp only[Act.put,zzA,zzB,zzC,zzD,zzE,zzF]
                  refine wpAnyH_take (i:=15) (v:=?_) rfl (by kernel_rfl) (by kernel_rfl) (by kernel_rfl) (fun _ _ _ h=>h) (Or.inl ⟨by rfl,?_⟩) hHeld ?_
                  rotate_left 1
                  · (intro w hSw;obtain⟨q1,q2,q3,-⟩:=hSw;go_simp;try with_reducible rfl)
                  try simp only[Act.put,zzA,zzB,zzC,zzD,zzE,zzF]
                  refine wpAnyH_take (i:=16) (v:=(.bool false)) rfl (by kernel_rfl) (by kernel_rfl) (by kernel_rfl) (fun _ _ _ h=>h) (Or.inl ⟨by rfl,?_⟩) hHeld ?_
                  · (intro w hSw;first|(go_simp;done)|(go_simp;exact hk)|(go_simp;simp[hk]))
                  try simp only[Act.put,zzA,zzB,zzC,zzD,zzE,zzF]
                  refine wpAnyH_take (i:=17) (v:=?_) rfl (by kernel_rfl) (by kernel_rfl) (by kernel_rfl) (fun _ _ _ h=>h) (Or.inl ⟨by rfl,?_⟩) hHeld ?_
                  rotate_left 1
                  · (intro w hSw;(try dsimp only at hSw);go_simp;try with_reducible rfl)
                  try simp only[Act.put,zzA,zzB,zzC,zzD,zzE,zzF]
                  refine wpAnyH_take (i:=18) (v:=?_) rfl (by kernel_rfl) (by kernel_rfl) (by kernel_rfl) (fun _ _ _ h=>h) (Or.inl ⟨by rfl,?_⟩) hHeld ?_
                  rotate_left 1
                  · (intro w hSw;(try dsimp only at hSw);go_simp;try with_reducible rfl)
                  try simp only[Act.put,zzA,zzB,zzC,zzD,zzE,zzF]
                  refine wpAnyH_take (i:=19) (v:=?_) rfl (by kernel_rfl) (by kernel_rfl) (by kernel_rfl) (fun _ _ _ h=>h) (Or.inl ⟨by rfl,?_⟩) hHeld ?_
                  rotate_left 1
                  · (intro w hSw;(try dsimp only at hSw);go_simp;try with_reducible rfl)
                  try simp only[Act.put,zzA,zzB,zzC,zzD,zzE,zzF]
                  refine wpAnyH_take (i:=20) (v:=?_) rfl (by kernel_rfl) (by kernel_rfl) (by kernel_rfl) (fun _ _ _ h=>h) (Or.inl ⟨by rfl,?_⟩) hHeld ?_
                  rotate_left 1
                  · (intro w hSw;(try dsimp only at hSw);go_simp;try with_reducible rfl)
                  try simp only[Act.put,zzA,zzB,zzC,zzD,zzE,zzF]
                  refine wpAnyH_take (i:=21) (v:=?_) rfl (by kernel_rfl) (by kernel_rfl) (by kernel_rfl) (fun _ _ _ h=>h) (Or.inl ⟨by rfl,?_⟩) hHeld ?_
                  rotate_left 1
                  · (intro w hSw;obtain⟨q1,q2,q3,-⟩:=hSw;go_simp;try with_reducible rfl)
                  try simp only[Act.put,zzA,zzB,zzC,zzD,zzE,zzF]
                  refine wpAnyH_ready (rs:=[22]) (by kernel_rfl) (by simp) (AllReadyH.cons rfl (fun K hK=>?_) AllReadyH.nil)
                  clear hHeld
                  (try refine(if_pos rfl).mpr ?_)
                  go_simp
                  refine(KN.out _ ((G.refl wb).drew)).mono ?_
                  rintro e w5 ⟨rfl,g5'⟩
                  have g5:G wb w5:=((G.refl wb).drew).trans g5'
                  clear g5'
                  go_wp2_with fail
                  refine hK.out _ _ (HS.out w5 g5) (fun hHeld=>?_)
                  clear hK K
                  try simp only[Act.put,zzA,zzB,zzC,zzD,zzE,zzF]
                  refine wpAnyH_take (i:=23) (v:=?_) rfl (by kernel_rfl) (by kernel_rfl) (by kernel_rfl) (fun _ _ _ h=>h) (Or.inl ⟨by rfl,?_⟩) hHeld ?_
                  rotate_left 1
                  · (intro w hSw;(try dsimp only at hSw);go_simp;try with_reducible rfl)
                  try simp only[Act.put,zzA,zzB,zzC,zzD,zzE,zzF]
                  refine wpAnyH_take (i:=24) (v:=?_) rfl (by kernel_rfl) (by kernel_rfl) (by kernel_rfl) (fun _ _ _ h=>h) (Or.inl ⟨by rfl,?_⟩) hHeld ?_
                  rotate_left 1
                  · (intro w hSw;(try dsimp only at hSw);go_simp;try with_reducible rfl)
                  try simp only[Act.put,zzA,zzB,zzC,zzD,zzE,zzF]
                  refine wpAnyH_take (i:=25) (v:=?_) rfl (by kernel_rfl) (by kernel_rfl) (by kernel_rfl) (fun _ _ _ h=>h) (Or.inl ⟨by rfl,?_⟩) hHeld ?_
                  rotate_left 1
                  · (intro w hSw;(try dsimp only at hSw);go_simp;try with_reducible rfl)
                  try simp only[Act.put,zzA,zzB,zzC,zzD,zzE,zzF]
                  refine wpAnyH_take (i:=26) (v:=?_) rfl (by kernel_rfl) (by kernel_rfl) (by kernel_rfl) (fun _ _ _ h=>h) (Or.inl ⟨by rfl,?_⟩) hHeld ?_
                  rotate_left 1
                  · (intro w hSw;(try dsimp only at hSw);go_simp;try with_reducible rfl)
                  try simp only[Act.put,zzA,zzB,zzC,zzD,zzE,zzF]
                  refine wpAnyH_take (i:=27) (v:=?_) rfl (by kernel_rfl) (by kernel_rfl) (by kernel_rfl) (fun _ _ _ h=>h) (Or.inl ⟨by rfl,?_⟩) hHeld ?_
                  rotate_left 1
                  · (intro w hSw;obtain⟨q1,q2,q3,-⟩:=hSw;go_simp;try with_reducible rfl)
                  try simp only[Act.put,zzA,zzB,zzC,zzD,zzE,zzF]
                  refine wpAnyH_ready (rs:=[28]) (by kernel_rfl) (by simp) (AllReadyH.cons rfl (fun K hK=>?_) AllReadyH.nil)
                  clear hHeld
                  (try refine(if_pos rfl).mpr ?_)
                  go_simp
                  refine(K2.out _ g5).mono ?_
                  rintro e w6 ⟨rfl,g6'⟩
                  have g6:G wb w6:=g5.trans g6'
                  clear g6'
                  go_wp2_with fail
                  refine hK.out _ _ (HS.out w6 g6) (fun hHeld=>?_)
                  clear hK K
                  try simp only[Act.put,zzA,zzB,zzC,zzD,zzE,zzF]
                  refine wpAnyH_take (i:=29) (v:=?_) rfl (by kernel_rfl) (by kernel_rfl) (by kernel_rfl) (fun _ _ _ h=>h) (Or.inl ⟨by rfl,?_⟩) hHeld ?_
                  rotate_left 1
                  · (intro w hSw;(try dsimp only at hSw);go_simp;try with_reducible rfl)
                  try simp only[Act.put,zzA,zzB,zzC,zzD,zzE,zzF]
                  refine wpAnyH_take (i:=30) (v:=?_) rfl (by kernel_rfl) (by kernel_rfl) (by kernel_rfl) (fun _ _ _ h=>h) (Or.inl ⟨by rfl,?_⟩) hHeld ?_
                  rotate_left 1
                  · (intro w hSw;(try dsimp only at hSw);go_simp;try with_reducible rfl)
                  try simp only[Act.put,zzA,zzB,zzC,zzD,zzE,zzF]
                  refine wpAnyH_take (i:=31) (v:=?_) rfl (by kernel_rfl) (by kernel_rfl) (by kernel_rfl) (fun _ _ _ h=>h) (Or.inl ⟨by rfl,?_⟩) hHeld ?_
                  rotate_left 1
                  · (intro w hSw;(try dsimp only at hSw);go_simp;try with_reducible rfl)
                  try simp only[Act.put,zzA,zzB,zzC,zzD,zzE,zzF]
                  refine wpAnyH_take (i:=32) (v:=?_) rfl (by kernel_rfl) (by kernel_rfl) (by kernel_rfl) (fun _ _ _ h=>h) (Or.inl ⟨by rfl,?_⟩) hHeld ?_
                  rotate_left 1
                  · (intro w hSw;(try dsimp only at hSw);go_simp;try with_reducible rfl)
                  try simp only[Act.put,zzA,zzB,zzC,zzD,zzE,zzF]
                  refine wpAnyH_take (i:=33) (v:=?_) rfl (by kernel_rfl) (by kernel_rfl) (by kernel_rfl) (fun _ _ _ h=>h) (Or.inl ⟨by rfl,?_⟩) hHeld ?_
                  rotate_left 1
                  · (intro w hSw;obtain⟨q1,q2,q3,-⟩:=hSw;go_simp;try with_reducible rfl)
                  try simp only[Act.put,zzA,zzB,zzC,zzD,zzE,zzF]
                  refine wpAnyH_ready (rs:=[34]) (by kernel_rfl) (by simp) (AllReadyH.cons rfl (fun K hK=>?_) AllReadyH.nil)
                  clear hHeld
                  (try refine(if_pos rfl).mpr ?_)
                  go_simp
                  refine(K3.out _ g6).mono ?_
                  rintro e w7 ⟨rfl,g7'⟩
                  have g7:G wb w7:=g6.trans g7'
                  clear g7'
                  go_wp2_with fail
                  refine hK.out _ _ (HS.out w7 g7) (fun hHeld=>?_)
                  clear hK K
                  try simp only[Act.put,zzA,zzB,zzC,zzD,zzE,zzF]
                  refine wpAnyH_take (i:=35) (v:=?_) rfl (by kernel_rfl) (by kernel_rfl) (by kernel_rfl) (fun _ _ _ h=>h) (Or.inl ⟨by rfl,?_⟩) hHeld ?_
                  rotate_left 1
                  · (intro w hSw;(try dsimp only at hSw);go_simp;try with_reducible rfl)
                  try simp only[Act.put,zzA,zzB,zzC,zzD,zzE,zzF]
                  refine wpAnyH_take (i:=36) (v:=?_) rfl (by kernel_rfl) (by kernel_rfl) (by kernel_rfl) (fun _ _ _ h=>h) (Or.inl ⟨by rfl,?_⟩) hHeld ?_
                  rotate_left 1
                  · (intro w hSw;(try dsimp only at hSw);go_simp;try with_reducible rfl)
                  try simp only[Act.put,zzA,zzB,zzC,zzD,zzE,zzF]
                  refine wpAnyH_done (by kernel_rfl) ?_ _
                  refine NoPanic.normal ?_
                  go_wp2_with fail
                  exact⟨⟨i+1,by rw[HW.out];exact srl i,HIL.out,.inr (by rw[HPN.out];exact HA1.out),HST.out,HG2.out.trans g7⟩,by rw[HW.out];exact sms HIL.out⟩
    · have i1:¬(i:Int)<(sn:Int):=by omega
      rw[fromB_end (by omega)] at hfr
      have HG:=hide hg
      have HFR:=hide hfr
      clear hik hpr hfr hl hil hg
      have HIDS:Hid ((ns.map fun y=>y.id).Pairwise (·<·)):=(riseB_pairs _ 0 (by
        have q:=HFR.out
        unfold nodesB at q
        exact(Bool.and_eq_true _ _▸q).1)).1
      have HBBT:Hid (bb=edgesB (ns.map fun y=>y.id) es):=by rw[Hid,HBB0.out,HFR.out,Bool.true_and]
      clear HBB HFR HBB0
      have HBB:Hid (edgesB (ns.map fun y=>y.id) es=false→bb=false):=fun e=>HBBT.out.trans e
      go_wp2_with fail
      clear i1 kb1
      go_loopw [5,6] (fun iv _ wr=>∃i:Nat,iv=I i∧i≤es.length∧((i=0∧prevI (es.map fun y=>y.id) i=0)∨1≤prevI (es.map fun y=>y.id) i)∧edgesB (ns.map fun y=>y.id) es=fromB (fun y=>y.id) (edgeOk (ns.map fun y=>y.id)) es i∧G w2 wr) (fun iv _ _=>es.length-(RowKit.intOf iv).toNat)
      case atStart=>exact⟨0,rfl,Nat.zero_le _,.inl ⟨rfl,rfl⟩,rfl,HG.out⟩
      case round=>
        clear HG
        obtain⟨i,rfl,hik,hpr,hfr,hg⟩:=hrel
        have hl:=HL.out
        have kb1:=(HB1.out.G hg).cell
        by_cases hil:i<es.length
        · obtain⟨x,hx⟩:∃x,es[i]?=some x:=⟨_,List.getElem?_eq_getElem hil⟩
          obtain⟨g,o,cap,qI⟩:=HS0.out.2.addr (by omega)
          injection qI with q1 q2 q3
          subst q1 q3
          obtain⟨cs,⟨vp,hcs,hvp⟩,hr1⟩:=HS0.out.2.at hx
          subst hcs
          obtain⟨pa,pc,hvf⟩:=hvp.form
          obtain⟨pn,hpn⟩:∃pn,pn=x.ps.length:=⟨_,rfl⟩
          rw[←hpn] at hvf
          subst hvf
          have x1:wr.cell? ⟨g,o+i*5,none⟩=some (I x.id):=rangeAt_G hr1 hg 0 _ rfl
          have x2:wr.cell? ⟨g,o+i*5+1,none⟩=some (.string x.ty):=rangeAt_G hr1 hg 1 _ rfl
          have x3:wr.cell? ⟨g,o+i*5+2,none⟩=some (I x.fr):=rangeAt_G hr1 hg 2 _ rfl
          have x4:wr.cell? ⟨g,o+i*5+3,none⟩=some (I x.to):=rangeAt_G hr1 hg 3 _ rfl
          have x5:wr.cell? ⟨g,o+i*5+4,none⟩=some (.slice pa pn pc):=rangeAt_G hr1 hg 4 _ rfl
          have i1:(i:Int)<(tn:Int):=by omega
          have HW:Hid (wrap64 ((i:Int)+1)=(i:Int)+1):=by show _=_;unfold wrap64;omega
          obtain⟨wb,hwb⟩:∃wb,wb=wr.alloc (.cells #[I x.id,.string x.ty,I x.fr,I x.to,.slice pa pn pc] 72):=⟨_,rfl⟩
          obtain⟨B5,hB5⟩:∃B5,B5=wr.heap.size:=⟨_,rfl⟩
          have HEB:Hid (wr.alloc (.cells #[I x.id,.string x.ty,I x.fr,I x.to,.slice pa pn pc] 72)=wb):=hwb.symm
          have HE5:Hid (wr.heap.size=B5):=hB5.symm
          have hga:G wr wb:=by rw[hwb];exact(G.refl wr).alloc _
          have HB5:Hid (Blk wb B5 72 [I x.id,.string x.ty,I x.fr,I x.to,.slice pa pn pc]):=by rw[Hid,hwb,hB5];exact Blk.new wr [I x.id,.string x.ty,I x.fr,I x.to,.slice pa pn pc] 72
          have HB1W:=hide ((HB1.out.G hg).G hga)
          have hxm:=List.mem_of_getElem? hx
          have hpo:=HO.out.2 x hxm
          have KN:Hid (∀V,G wb V→Calls Tryz.prog 37 #[.string x.ty] V fun e W'=>e=.returned (.bool (nameB x.ty))∧G V W'):=fun V _=>(rnm_any _ V).mono (by rintro e w ⟨h,rfl⟩;exact⟨h,G.refl _⟩)
          have K2:Hid (∀V,G wb V→Calls Tryz.prog 38 #[.slice pa pn pc] V fun e W'=>e=.returned (.bool (x.ps.all fun p=>nameB p.key))∧G V W'):=fun V hV=>(rkeys_any nameB (fun t w _=>rnm_any t w) _ x.ps V (((hvp.G hg).G hga).G hV) (fun p hp=>(hpo.2 p hp).1) (by have:=hpo.1;omega)).mono (by rintro e w ⟨h,rfl⟩;exact⟨h,G.refl _⟩)
          have K3:Hid (∀V,G wb V→Calls Tryz.prog 39 #[.slice pa pn pc] V fun e W'=>e=.returned (.bool (goodB x.ps))∧G V W'):=fun V hV=>rprops_any _ x.ps V (((hvp.G hg).G hga).G hV) (fun p hp=>(hpo.2 p hp).2) (by have:=hpo.1;omega)
          have K4:Hid (∀V,G wb V→∀id:Int,Calls Tryz.prog 40 #[.agg #[.slice sa sn sc,.slice (some ⟨g,o,none⟩) tn tc],I id] V fun e W2=>(∃r:Int,e=.returned (I r)∧decide (r<0)=!decide (id∈ns.map fun y=>y.id))∧G V W2):=fun V hV id=>nodeAt_any ns _ _ id V (((HS0.out.1.G hg).G hga).G hV) ⟨_,_,_,rfl⟩ HIDS.out (by omega)
          have HX:=hide hx;have HR:=hide hfr;have HIL:=hide hil;have HGB:=hide ((HGW.out.trans hg).trans hga);have HG2:=hide (hg.trans hga)
          have HPN:Hid (prevI (es.map fun y=>y.id) (i+1)=x.id):=by
            show(es.map fun y=>y.id).getD i 0=_
            rw[List.getD_eq_getElem?_getD,List.getElem?_map,hx];rfl
          by_cases ha:x.id<1
          · have a1:decide (x.id<1)=true:=decide_eq_true ha
            have HF:Hid (bb=false):=HBB.out (by
              rw[hfr,fromB_step hx,decide_eq_true (show(fun y:Ed=>y.id) x≤_ from ?_)]
              · rfl
              · show x.id≤_
                rcases hpr with ⟨h0,h1⟩|h1
                · rw[h1];omega
                · omega)
            clear hik hpr hfr hl hil hx q2 hr1 hvp hpn hwb hB5 hga hxm hpo hg
            have HS:Hid (∀V,G wb V→(∀o,V.cell? ⟨B5,o,none⟩=([I x.id,.string x.ty,I x.fr,I x.to,.slice pa pn pc]:List Value)[o]?)∧(∀o9,V.cell? ⟨B1,o9,none⟩=([.slice sa sn sc,.slice (some ⟨g,o,none⟩) tn tc]:List Value)[o9]?)∧G wb V):=fun V h=>⟨(HB5.out.G h).cell,(HB1W.out.G h).cell,h⟩
            go_wp2_with fail
            rw[HEB.out]
            try rw[HE5.out]
            refine wp_region_noPanic ?_
            refine wp_region_held_drew (S:=(fun V=>(∀o,V.cell? ⟨B5,o,none⟩=([I x.id,.string x.ty,I x.fr,I x.to,.slice pa pn pc]:List Value)[o]?)∧(∀o9,V.cell? ⟨B1,o9,none⟩=([.slice sa sn sc,.slice (some ⟨g,o,none⟩) tn tc]:List Value)[o9]?)∧G wb V)) (by kernel_rfl) (HS.out _ ((G.refl _).drew)) (fun hHeld=>?_)
            refine wpAnyH_take (i:=0) (v:=?_) rfl (by kernel_rfl) (by kernel_rfl) (by kernel_rfl) (fun _ _ _ h=>h) (Or.inl ⟨by rfl,?_⟩) hHeld ?_
            rotate_left 1
            · (intro w hSw;obtain⟨q1,q2,-⟩:=hSw;go_simp;try with_reducible rfl)
            try simp only[Act.put,zzA,zzB,zzD,zzE,zzF]
            refine wpAnyH_take (i:=1) (v:=?_) rfl (by kernel_rfl) (by kernel_rfl) (by kernel_rfl) (fun _ _ _ h=>h) (Or.inl ⟨by rfl,?_⟩) hHeld ?_
            rotate_left 1
            · (intro w hSw;obtain⟨q1,q2,-⟩:=hSw;go_simp;try with_reducible rfl)
            try simp only[Act.put,zzA,zzB,zzC,zzD,zzE,zzF]
            refine wpAnyH_take (i:=2) (v:=(.bool true)) rfl (by kernel_rfl) (by kernel_rfl) (by kernel_rfl) (fun _ _ _ h=>h) (Or.inl ⟨by rfl,?_⟩) hHeld ?_
            · (intro w hSw;first|(go_simp;done)|(go_simp;exact a1)|(go_simp;simp[a1]))
            try simp only[Act.put,zzA,zzB,zzC,zzD,zzE,zzF]
            refine wpAnyH_take (i:=3) (v:=?_) rfl (by kernel_rfl) (by kernel_rfl) (by kernel_rfl) (fun _ _ _ h=>h) (Or.inl ⟨by rfl,?_⟩) hHeld ?_
            rotate_left 1
            · (intro w hSw;(try dsimp only at hSw);go_simp;try with_reducible rfl)
            try simp only[Act.put,zzA,zzB,zzC,zzD,zzE,zzF]
            refine wpAnyH_take (i:=4) (v:=undef) rfl (by kernel_rfl) (by kernel_rfl) (by kernel_rfl) (fun _ _ _ h=>h) (Or.inr ⟨by rfl,rfl⟩) hHeld ?_
            try simp only[Act.put,zzA,zzB,zzC,zzD,zzE,zzF]
            refine wpAnyH_take (i:=5) (v:=undef) rfl (by kernel_rfl) (by kernel_rfl) (by kernel_rfl) (fun _ _ _ h=>h) (Or.inr ⟨by rfl,rfl⟩) hHeld ?_
            try simp only[Act.put,zzA,zzB,zzC,zzD,zzE,zzF]
            refine wpAnyH_take (i:=6) (v:=undef) rfl (by kernel_rfl) (by kernel_rfl) (by kernel_rfl) (fun _ _ _ h=>h) (Or.inr ⟨by rfl,rfl⟩) hHeld ?_
            try simp only[Act.put,zzA,zzB,zzC,zzD,zzE,zzF]
            refine wpAnyH_take (i:=7) (v:=undef) rfl (by kernel_rfl) (by kernel_rfl) (by kernel_rfl) (fun _ _ _ h=>h) (Or.inr ⟨by rfl,rfl⟩) hHeld ?_
            try simp only[Act.put,zzA,zzB,zzC,zzD,zzE,zzF]
            refine wpAnyH_take (i:=8) (v:=undef) rfl (by kernel_rfl) (by kernel_rfl) (by kernel_rfl) (fun _ _ _ h=>h) (Or.inr ⟨by rfl,rfl⟩) hHeld ?_
            try simp only[Act.put,zzA,zzB,zzC,zzD,zzE,zzF]
            refine wpAnyH_take (i:=9) (v:=undef) rfl (by kernel_rfl) (by kernel_rfl) (by kernel_rfl) (fun _ _ _ h=>h) (Or.inr ⟨by rfl,rfl⟩) hHeld ?_
            try simp only[Act.put,zzA,zzB,zzC,zzD,zzE,zzF]
            refine wpAnyH_take (i:=10) (v:=undef) rfl (by kernel_rfl) (by kernel_rfl) (by kernel_rfl) (fun _ _ _ h=>h) (Or.inr ⟨by rfl,rfl⟩) hHeld ?_
            try simp only[Act.put,zzA,zzB,zzC,zzD,zzE,zzF]
            refine wpAnyH_take (i:=11) (v:=undef) rfl (by kernel_rfl) (by kernel_rfl) (by kernel_rfl) (fun _ _ _ h=>h) (Or.inr ⟨by rfl,rfl⟩) hHeld ?_
            try simp only[Act.put,zzA,zzB,zzC,zzD,zzE,zzF]
            refine wpAnyH_take (i:=12) (v:=undef) rfl (by kernel_rfl) (by kernel_rfl) (by kernel_rfl) (fun _ _ _ h=>h) (Or.inr ⟨by rfl,rfl⟩) hHeld ?_
            try simp only[Act.put,zzA,zzB,zzC,zzD,zzE,zzF]
            refine wpAnyH_take (i:=13) (v:=undef) rfl (by kernel_rfl) (by kernel_rfl) (by kernel_rfl) (fun _ _ _ h=>h) (Or.inr ⟨by rfl,rfl⟩) hHeld ?_
            try simp only[Act.put,zzA,zzB,zzC,zzD,zzE,zzF]
            refine wpAnyH_take (i:=14) (v:=undef) rfl (by kernel_rfl) (by kernel_rfl) (by kernel_rfl) (fun _ _ _ h=>h) (Or.inr ⟨by rfl,rfl⟩) hHeld ?_
            try simp only[Act.put,zzA,zzB,zzC,zzD,zzE,zzF]
            refine wpAnyH_take (i:=15) (v:=undef) rfl (by kernel_rfl) (by kernel_rfl) (by kernel_rfl) (fun _ _ _ h=>h) (Or.inr ⟨by rfl,rfl⟩) hHeld ?_
            try simp only[Act.put,zzA,zzB,zzC,zzD,zzE,zzF]
            refine wpAnyH_take (i:=16) (v:=undef) rfl (by kernel_rfl) (by kernel_rfl) (by kernel_rfl) (fun _ _ _ h=>h) (Or.inr ⟨by rfl,rfl⟩) hHeld ?_
            try simp only[Act.put,zzA,zzB,zzC,zzD,zzE,zzF]
            refine wpAnyH_take (i:=17) (v:=undef) rfl (by kernel_rfl) (by kernel_rfl) (by kernel_rfl) (fun _ _ _ h=>h) (Or.inr ⟨by rfl,rfl⟩) hHeld ?_
            try simp only[Act.put,zzA,zzB,zzC,zzD,zzE,zzF]
            refine wpAnyH_take (i:=18) (v:=?_) rfl (by kernel_rfl) (by kernel_rfl) (by kernel_rfl) (fun _ _ _ h=>h) (Or.inl ⟨by rfl,?_⟩) hHeld ?_
            rotate_left 1
            · (intro w hSw;(try dsimp only at hSw);go_simp;try with_reducible rfl)
            try simp only[Act.put,zzA,zzB,zzC,zzD,zzE,zzF]
            refine wpAnyH_take (i:=19) (v:=?_) rfl (by kernel_rfl) (by kernel_rfl) (by kernel_rfl) (fun _ _ _ h=>h) (Or.inl ⟨by rfl,?_⟩) hHeld ?_
            rotate_left 1
            · (intro w hSw;(try dsimp only at hSw);go_simp;try with_reducible rfl)
            try simp only[Act.put,zzA,zzB,zzC,zzD,zzE,zzF]
            refine wpAnyH_take (i:=20) (v:=undef) rfl (by kernel_rfl) (by kernel_rfl) (by kernel_rfl) (fun _ _ _ h=>h) (Or.inr ⟨by rfl,rfl⟩) hHeld ?_
            try simp only[Act.put,zzA,zzB,zzC,zzD,zzE,zzF]
            refine wpAnyH_take (i:=21) (v:=undef) rfl (by kernel_rfl) (by kernel_rfl) (by kernel_rfl) (fun _ _ _ h=>h) (Or.inr ⟨by rfl,rfl⟩) hHeld ?_
            try simp only[Act.put,zzA,zzB,zzC,zzD,zzE,zzF]
            refine wpAnyH_take (i:=22) (v:=undef) rfl (by kernel_rfl) (by kernel_rfl) (by kernel_rfl) (fun _ _ _ h=>h) (Or.inr ⟨by rfl,rfl⟩) hHeld ?_
            try simp only[Act.put,zzA,zzB,zzC,zzD,zzE,zzF]
            refine wpAnyH_take (i:=23) (v:=undef) rfl (by kernel_rfl) (by kernel_rfl) (by kernel_rfl) (fun _ _ _ h=>h) (Or.inr ⟨by rfl,rfl⟩) hHeld ?_
            try simp only[Act.put,zzA,zzB,zzC,zzD,zzE,zzF]
            refine wpAnyH_take (i:=24) (v:=?_) rfl (by kernel_rfl) (by kernel_rfl) (by kernel_rfl) (fun _ _ _ h=>h) (Or.inl ⟨by rfl,?_⟩) hHeld ?_
            rotate_left 1
            · (intro w hSw;(try dsimp only at hSw);go_simp;try with_reducible rfl)
            try simp only[Act.put,zzA,zzB,zzC,zzD,zzE,zzF]
            refine wpAnyH_take (i:=25) (v:=?_) rfl (by kernel_rfl) (by kernel_rfl) (by kernel_rfl) (fun _ _ _ h=>h) (Or.inl ⟨by rfl,?_⟩) hHeld ?_
            rotate_left 1
            · (intro w hSw;(try dsimp only at hSw);go_simp;try with_reducible rfl)
            try simp only[Act.put,zzA,zzB,zzC,zzD,zzE,zzF]
            refine wpAnyH_take (i:=26) (v:=undef) rfl (by kernel_rfl) (by kernel_rfl) (by kernel_rfl) (fun _ _ _ h=>h) (Or.inr ⟨by rfl,rfl⟩) hHeld ?_
            try simp only[Act.put,zzA,zzB,zzC,zzD,zzE,zzF]
            refine wpAnyH_take (i:=27) (v:=undef) rfl (by kernel_rfl) (by kernel_rfl) (by kernel_rfl) (fun _ _ _ h=>h) (Or.inr ⟨by rfl,rfl⟩) hHeld ?_
            try simp only[Act.put,zzA,zzB,zzC,zzD,zzE,zzF]
            refine wpAnyH_take (i:=28) (v:=undef) rfl (by kernel_rfl) (by kernel_rfl) (by kernel_rfl) (fun _ _ _ h=>h) (Or.inr ⟨by rfl,rfl⟩) hHeld ?_
            try simp only[Act.put,zzA,zzB,zzC,zzD,zzE,zzF]
            refine wpAnyH_take (i:=29) (v:=undef) rfl (by kernel_rfl) (by kernel_rfl) (by kernel_rfl) (fun _ _ _ h=>h) (Or.inr ⟨by rfl,rfl⟩) hHeld ?_
            try simp only[Act.put,zzA,zzB,zzC,zzD,zzE,zzF]
            refine wpAnyH_take (i:=30) (v:=?_) rfl (by kernel_rfl) (by kernel_rfl) (by kernel_rfl) (fun _ _ _ h=>h) (Or.inl ⟨by rfl,?_⟩) hHeld ?_
            rotate_left 1
            · (intro w hSw;(try dsimp only at hSw);go_simp;try with_reducible rfl)
            try simp only[Act.put,zzA,zzB,zzC,zzD,zzE,zzF]
            refine wpAnyH_take (i:=31) (v:=?_) rfl (by kernel_rfl) (by kernel_rfl) (by kernel_rfl) (fun _ _ _ h=>h) (Or.inl ⟨by rfl,?_⟩) hHeld ?_
            rotate_left 1
            · (intro w hSw;(try dsimp only at hSw);go_simp;try with_reducible rfl)
            try simp only[Act.put,zzA,zzB,zzC,zzD,zzE,zzF]
            refine wpAnyH_take (i:=32) (v:=undef) rfl (by kernel_rfl) (by kernel_rfl) (by kernel_rfl) (fun _ _ _ h=>h) (Or.inr ⟨by rfl,rfl⟩) hHeld ?_
            try simp only[Act.put,zzA,zzB,zzC,zzD,zzE,zzF]
            refine wpAnyH_take (i:=33) (v:=undef) rfl (by kernel_rfl) (by kernel_rfl) (by kernel_rfl) (fun _ _ _ h=>h) (Or.inr ⟨by rfl,rfl⟩) hHeld ?_
            try simp only[Act.put,zzA,zzB,zzC,zzD,zzE,zzF]
            refine wpAnyH_take (i:=34) (v:=undef) rfl (by kernel_rfl) (by kernel_rfl) (by kernel_rfl) (fun _ _ _ h=>h) (Or.inr ⟨by rfl,rfl⟩) hHeld ?_
            try simp only[Act.put,zzA,zzB,zzC,zzD,zzE,zzF]
            refine wpAnyH_take (i:=35) (v:=undef) rfl (by kernel_rfl) (by kernel_rfl) (by kernel_rfl) (fun _ _ _ h=>h) (Or.inr ⟨by rfl,rfl⟩) hHeld ?_
            try simp only[Act.put,zzA,zzB,zzC,zzD,zzE,zzF]
            refine wpAnyH_take (i:=36) (v:=?_) rfl (by kernel_rfl) (by kernel_rfl) (by kernel_rfl) (fun _ _ _ h=>h) (Or.inl ⟨by rfl,?_⟩) hHeld ?_
            rotate_left 1
            · (intro w hSw;(try dsimp only at hSw);go_simp;try with_reducible rfl)
            try simp only[Act.put,zzA,zzB,zzC,zzD,zzE,zzF]
            refine wpAnyH_done (by kernel_rfl) ?_ _
            refine NoPanic.normal ?_
            go_wp2_with fail
            go_ret
            exact⟨by rw[HF.out]<;>rfl,HGB.out.drew⟩
          · have a1:decide (x.id<1)=false:=decide_eq_false ha
            have HA1:Hid (1≤x.id):=by show _≤_;omega
            by_cases hi0:i=0
            · have n0:decide (0<i)=false:=by simp;omega
              have n1:decide ((0:Int)<(i:Int))=false:=by simp;omega
              have HNL:Hid (¬(x.id≤prevI (es.map fun y=>y.id) i)):=by subst hi0;show¬x.id≤0;omega
              clear hik hpr hfr hl hil hx q2 hr1 hvp hpn hwb hB5 hga hxm hpo hg hi0 ha
              have hst:=fromB_step (id:=fun y=>y.id) (ok:=(edgeOk (ns.map fun y=>y.id))) HX.out
              rw[show decide ((fun y:Ed=>y.id) x≤prevI (es.map fun y=>y.id) i)=false from decide_eq_false HNL.out] at hst
              cases hb1:nameB x.ty with
              | false=>
                rw[hb1] at KN
                have HF:Hid (bb=false):=HBB.out (by rw[HR.out,hst];simp[edgeOk,hb1])
                clear hb1 hst
                have HS:Hid (∀V,G wb V→(∀o,V.cell? ⟨B5,o,none⟩=([I x.id,.string x.ty,I x.fr,I x.to,.slice pa pn pc]:List Value)[o]?)∧(∀o9,V.cell? ⟨B1,o9,none⟩=([.slice sa sn sc,.slice (some ⟨g,o,none⟩) tn tc]:List Value)[o9]?)∧G wb V):=fun V h=>⟨(HB5.out.G h).cell,(HB1W.out.G h).cell,h⟩
                go_wp2_with fail
                rw[HEB.out]
                try rw[HE5.out]
                refine wp_region_noPanic ?_
                refine wp_region_held_drew (S:=(fun V=>(∀o,V.cell? ⟨B5,o,none⟩=([I x.id,.string x.ty,I x.fr,I x.to,.slice pa pn pc]:List Value)[o]?)∧(∀o9,V.cell? ⟨B1,o9,none⟩=([.slice sa sn sc,.slice (some ⟨g,o,none⟩) tn tc]:List Value)[o9]?)∧G wb V)) (by kernel_rfl) (HS.out _ ((G.refl _).drew)) (fun hHeld=>?_)
                refine wpAnyH_take (i:=0) (v:=?_) rfl (by kernel_rfl) (by kernel_rfl) (by kernel_rfl) (fun _ _ _ h=>h) (Or.inl ⟨by rfl,?_⟩) hHeld ?_
                rotate_left 1
                · (intro w hSw;obtain⟨q1,q2,-⟩:=hSw;go_simp;try with_reducible rfl)
                try simp only[Act.put,zzA,zzB,zzD,zzE,zzF]
                refine wpAnyH_take (i:=1) (v:=?_) rfl (by kernel_rfl) (by kernel_rfl) (by kernel_rfl) (fun _ _ _ h=>h) (Or.inl ⟨by rfl,?_⟩) hHeld ?_
                rotate_left 1
                · (intro w hSw;obtain⟨q1,q2,-⟩:=hSw;go_simp;try with_reducible rfl)
                try simp only[Act.put,zzA,zzB,zzC,zzD,zzE,zzF]
                refine wpAnyH_take (i:=2) (v:=(.bool false)) rfl (by kernel_rfl) (by kernel_rfl) (by kernel_rfl) (fun _ _ _ h=>h) (Or.inl ⟨by rfl,?_⟩) hHeld ?_
                · (intro w hSw;first|(go_simp;done)|(go_simp;exact a1)|(go_simp;simp[a1]))
                try simp only[Act.put,zzA,zzB,zzC,zzD,zzE,zzF]
                refine wpAnyH_take (i:=3) (v:=?_) rfl (by kernel_rfl) (by kernel_rfl) (by kernel_rfl) (fun _ _ _ h=>h) (Or.inl ⟨by rfl,?_⟩) hHeld ?_
                rotate_left 1
                · (intro w hSw;(try dsimp only at hSw);go_simp;try with_reducible rfl)
                try simp only[Act.put,zzA,zzB,zzC,zzD,zzE,zzF]
                refine wpAnyH_take (i:=4) (v:=?_) rfl (by kernel_rfl) (by kernel_rfl) (by kernel_rfl) (fun _ _ _ h=>h) (Or.inl ⟨by rfl,?_⟩) hHeld ?_
                rotate_left 1
                · (intro w hSw;(try dsimp only at hSw);go_simp;try with_reducible rfl)
                try simp only[Act.put,zzA,zzB,zzC,zzD,zzE,zzF]
                refine wpAnyH_take (i:=5) (v:=(.bool false)) rfl (by kernel_rfl) (by kernel_rfl) (by kernel_rfl) (fun _ _ _ h=>h) (Or.inl ⟨by rfl,?_⟩) hHeld ?_
                · (intro w hSw;first|(go_simp;done)|(go_simp;exact n1)|(go_simp;exact n0)|(go_simp;simp[n1,n0]))
                try simp only[Act.put,zzA,zzB,zzC,zzD,zzE,zzF]
                refine wpAnyH_take (i:=6) (v:=?_) rfl (by kernel_rfl) (by kernel_rfl) (by kernel_rfl) (fun _ _ _ h=>h) (Or.inl ⟨by rfl,?_⟩) hHeld ?_
                rotate_left 1
                · (intro w hSw;(try dsimp only at hSw);go_simp;try with_reducible rfl)
                try simp only[Act.put,zzA,zzB,zzC,zzD,zzE,zzF]
                refine wpAnyH_take (i:=7) (v:=undef) rfl (by kernel_rfl) (by kernel_rfl) (by kernel_rfl) (fun _ _ _ h=>h) (Or.inr ⟨by rfl,rfl⟩) hHeld ?_
                try simp only[Act.put,zzA,zzB,zzC,zzD,zzE,zzF]
                refine wpAnyH_take (i:=8) (v:=undef) rfl (by kernel_rfl) (by kernel_rfl) (by kernel_rfl) (fun _ _ _ h=>h) (Or.inr ⟨by rfl,rfl⟩) hHeld ?_
                try simp only[Act.put,zzA,zzB,zzC,zzD,zzE,zzF]
                refine wpAnyH_take (i:=9) (v:=undef) rfl (by kernel_rfl) (by kernel_rfl) (by kernel_rfl) (fun _ _ _ h=>h) (Or.inr ⟨by rfl,rfl⟩) hHeld ?_
                try simp only[Act.put,zzA,zzB,zzC,zzD,zzE,zzF]
                refine wpAnyH_take (i:=10) (v:=undef) rfl (by kernel_rfl) (by kernel_rfl) (by kernel_rfl) (fun _ _ _ h=>h) (Or.inr ⟨by rfl,rfl⟩) hHeld ?_
                try simp only[Act.put,zzA,zzB,zzC,zzD,zzE,zzF]
                refine wpAnyH_take (i:=11) (v:=undef) rfl (by kernel_rfl) (by kernel_rfl) (by kernel_rfl) (fun _ _ _ h=>h) (Or.inr ⟨by rfl,rfl⟩) hHeld ?_
                try simp only[Act.put,zzA,zzB,zzC,zzD,zzE,zzF]
                refine wpAnyH_take (i:=12) (v:=undef) rfl (by kernel_rfl) (by kernel_rfl) (by kernel_rfl) (fun _ _ _ h=>h) (Or.inr ⟨by rfl,rfl⟩) hHeld ?_
                try simp only[Act.put,zzA,zzB,zzC,zzD,zzE,zzF]
                refine wpAnyH_take (i:=13) (v:=undef) rfl (by kernel_rfl) (by kernel_rfl) (by kernel_rfl) (fun _ _ _ h=>h) (Or.inr ⟨by rfl,rfl⟩) hHeld ?_
                try simp only[Act.put,zzA,zzB,zzC,zzD,zzE,zzF]
                refine wpAnyH_take (i:=14) (v:=undef) rfl (by kernel_rfl) (by kernel_rfl) (by kernel_rfl) (fun _ _ _ h=>h) (Or.inr ⟨by rfl,rfl⟩) hHeld ?_
                try simp only[Act.put,zzA,zzB,zzC,zzD,zzE,zzF]
                refine wpAnyH_take (i:=15) (v:=undef) rfl (by kernel_rfl) (by kernel_rfl) (by kernel_rfl) (fun _ _ _ h=>h) (Or.inr ⟨by rfl,rfl⟩) hHeld ?_
                try simp only[Act.put,zzA,zzB,zzC,zzD,zzE,zzF]
                refine wpAnyH_take (i:=16) (v:=undef) rfl (by kernel_rfl) (by kernel_rfl) (by kernel_rfl) (fun _ _ _ h=>h) (Or.inr ⟨by rfl,rfl⟩) hHeld ?_
                try simp only[Act.put,zzA,zzB,zzC,zzD,zzE,zzF]
                refine wpAnyH_take (i:=17) (v:=?_) rfl (by kernel_rfl) (by kernel_rfl) (by kernel_rfl) (fun _ _ _ h=>h) (Or.inl ⟨by rfl,?_⟩) hHeld ?_
                rotate_left 1
                · (intro w hSw;(try dsimp only at hSw);go_simp;try with_reducible rfl)
                try simp only[Act.put,zzA,zzB,zzC,zzD,zzE,zzF]
                refine wpAnyH_take (i:=18) (v:=?_) rfl (by kernel_rfl) (by kernel_rfl) (by kernel_rfl) (fun _ _ _ h=>h) (Or.inl ⟨by rfl,?_⟩) hHeld ?_
                rotate_left 1
                · (intro w hSw;(try dsimp only at hSw);go_simp;try with_reducible rfl)
                try simp only[Act.put,zzA,zzB,zzC,zzD,zzE,zzF]
                refine wpAnyH_take (i:=19) (v:=?_) rfl (by kernel_rfl) (by kernel_rfl) (by kernel_rfl) (fun _ _ _ h=>h) (Or.inl ⟨by rfl,?_⟩) hHeld ?_
                rotate_left 1
                · (intro w hSw;(try dsimp only at hSw);go_simp;try with_reducible rfl)
                try simp only[Act.put,zzA,zzB,zzC,zzD,zzE,zzF]
                refine wpAnyH_take (i:=20) (v:=?_) rfl (by kernel_rfl) (by kernel_rfl) (by kernel_rfl) (fun _ _ _ h=>h) (Or.inl ⟨by rfl,?_⟩) hHeld ?_
                rotate_left 1
                · (intro w hSw;(try dsimp only at hSw);go_simp;try with_reducible rfl)
                try simp only[Act.put,zzA,zzB,zzC,zzD,zzE,zzF]
                refine wpAnyH_take (i:=21) (v:=?_) rfl (by kernel_rfl) (by kernel_rfl) (by kernel_rfl) (fun _ _ _ h=>h) (Or.inl ⟨by rfl,?_⟩) hHeld ?_
                rotate_left 1
                · (intro w hSw;obtain⟨q1,q2,-⟩:=hSw;go_simp;try with_reducible rfl)
                try simp only[Act.put,zzA,zzB,zzC,zzD,zzE,zzF]
                refine wpAnyH_ready (rs:=[22]) (by kernel_rfl) (by simp) (AllReadyH.cons rfl (fun K hK=>?_) AllReadyH.nil)
                clear hHeld
                (try refine(if_pos rfl).mpr ?_)
                go_simp
                refine(KN.out _ ((G.refl wb).drew)).mono ?_
                rintro e w5 ⟨rfl,g5'⟩
                have g5:G wb w5:=((G.refl wb).drew).trans g5'
                clear g5'
                go_wp2_with fail
                refine hK.out _ _ (HS.out w5 g5) (fun hHeld=>?_)
                clear hK K
                try simp only[Act.put,zzA,zzB,zzC,zzD,zzE,zzF]
                refine wpAnyH_take (i:=23) (v:=?_) rfl (by kernel_rfl) (by kernel_rfl) (by kernel_rfl) (fun _ _ _ h=>h) (Or.inl ⟨by rfl,?_⟩) hHeld ?_
                rotate_left 1
                · (intro w hSw;(try dsimp only at hSw);go_simp;try with_reducible rfl)
                try simp only[Act.put,zzA,zzB,zzC,zzD,zzE,zzF]
                refine wpAnyH_take (i:=24) (v:=?_) rfl (by kernel_rfl) (by kernel_rfl) (by kernel_rfl) (fun _ _ _ h=>h) (Or.inl ⟨by rfl,?_⟩) hHeld ?_
                rotate_left 1
                · (intro w hSw;(try dsimp only at hSw);go_simp;try with_reducible rfl)
                try simp only[Act.put,zzA,zzB,zzC,zzD,zzE,zzF]
                refine wpAnyH_take (i:=25) (v:=?_) rfl (by kernel_rfl) (by kernel_rfl) (by kernel_rfl) (fun _ _ _ h=>h) (Or.inl ⟨by rfl,?_⟩) hHeld ?_
                rotate_left 1
                · (intro w hSw;(try dsimp only at hSw);go_simp;try with_reducible rfl)
                try simp only[Act.put,zzA,zzB,zzC,zzD,zzE,zzF]
                refine wpAnyH_take (i:=26) (v:=undef) rfl (by kernel_rfl) (by kernel_rfl) (by kernel_rfl) (fun _ _ _ h=>h) (Or.inr ⟨by rfl,rfl⟩) hHeld ?_
                try simp only[Act.put,zzA,zzB,zzC,zzD,zzE,zzF]
                refine wpAnyH_take (i:=27) (v:=undef) rfl (by kernel_rfl) (by kernel_rfl) (by kernel_rfl) (fun _ _ _ h=>h) (Or.inr ⟨by rfl,rfl⟩) hHeld ?_
                try simp only[Act.put,zzA,zzB,zzC,zzD,zzE,zzF]
                refine wpAnyH_take (i:=28) (v:=undef) rfl (by kernel_rfl) (by kernel_rfl) (by kernel_rfl) (fun _ _ _ h=>h) (Or.inr ⟨by rfl,rfl⟩) hHeld ?_
                try simp only[Act.put,zzA,zzB,zzC,zzD,zzE,zzF]
                refine wpAnyH_take (i:=29) (v:=undef) rfl (by kernel_rfl) (by kernel_rfl) (by kernel_rfl) (fun _ _ _ h=>h) (Or.inr ⟨by rfl,rfl⟩) hHeld ?_
                try simp only[Act.put,zzA,zzB,zzC,zzD,zzE,zzF]
                refine wpAnyH_take (i:=30) (v:=?_) rfl (by kernel_rfl) (by kernel_rfl) (by kernel_rfl) (fun _ _ _ h=>h) (Or.inl ⟨by rfl,?_⟩) hHeld ?_
                rotate_left 1
                · (intro w hSw;(try dsimp only at hSw);go_simp;try with_reducible rfl)
                try simp only[Act.put,zzA,zzB,zzC,zzD,zzE,zzF]
                refine wpAnyH_take (i:=31) (v:=?_) rfl (by kernel_rfl) (by kernel_rfl) (by kernel_rfl) (fun _ _ _ h=>h) (Or.inl ⟨by rfl,?_⟩) hHeld ?_
                rotate_left 1
                · (intro w hSw;(try dsimp only at hSw);go_simp;try with_reducible rfl)
                try simp only[Act.put,zzA,zzB,zzC,zzD,zzE,zzF]
                refine wpAnyH_take (i:=32) (v:=undef) rfl (by kernel_rfl) (by kernel_rfl) (by kernel_rfl) (fun _ _ _ h=>h) (Or.inr ⟨by rfl,rfl⟩) hHeld ?_
                try simp only[Act.put,zzA,zzB,zzC,zzD,zzE,zzF]
                refine wpAnyH_take (i:=33) (v:=undef) rfl (by kernel_rfl) (by kernel_rfl) (by kernel_rfl) (fun _ _ _ h=>h) (Or.inr ⟨by rfl,rfl⟩) hHeld ?_
                try simp only[Act.put,zzA,zzB,zzC,zzD,zzE,zzF]
                refine wpAnyH_take (i:=34) (v:=undef) rfl (by kernel_rfl) (by kernel_rfl) (by kernel_rfl) (fun _ _ _ h=>h) (Or.inr ⟨by rfl,rfl⟩) hHeld ?_
                try simp only[Act.put,zzA,zzB,zzC,zzD,zzE,zzF]
                refine wpAnyH_take (i:=35) (v:=undef) rfl (by kernel_rfl) (by kernel_rfl) (by kernel_rfl) (fun _ _ _ h=>h) (Or.inr ⟨by rfl,rfl⟩) hHeld ?_
                try simp only[Act.put,zzA,zzB,zzC,zzD,zzE,zzF]
                refine wpAnyH_take (i:=36) (v:=?_) rfl (by kernel_rfl) (by kernel_rfl) (by kernel_rfl) (fun _ _ _ h=>h) (Or.inl ⟨by rfl,?_⟩) hHeld ?_
                rotate_left 1
                · (intro w hSw;(try dsimp only at hSw);go_simp;try with_reducible rfl)
                try simp only[Act.put,zzA,zzB,zzC,zzD,zzE,zzF]
                refine wpAnyH_done (by kernel_rfl) ?_ _
                refine NoPanic.normal ?_
                go_wp2_with fail
                go_ret
                exact⟨by rw[HF.out]<;>rfl,HGB.out.trans g5⟩
              | true=>
                rw[hb1] at KN
                cases hb2:(x.ps.all fun p=>nameB p.key)with
                | false=>
                  rw[hb2] at K2
                  have HF:Hid (bb=false):=HBB.out (by rw[HR.out,hst];simp only[edgeOk,propsOk,hb2,Bool.false_and,Bool.and_false])
                  clear hb1 hb2 hst
                  have HS:Hid (∀V,G wb V→(∀o,V.cell? ⟨B5,o,none⟩=([I x.id,.string x.ty,I x.fr,I x.to,.slice pa pn pc]:List Value)[o]?)∧(∀o9,V.cell? ⟨B1,o9,none⟩=([.slice sa sn sc,.slice (some ⟨g,o,none⟩) tn tc]:List Value)[o9]?)∧G wb V):=fun V h=>⟨(HB5.out.G h).cell,(HB1W.out.G h).cell,h⟩
                  go_wp2_with fail
                  rw[HEB.out]
                  try rw[HE5.out]
                  refine wp_region_noPanic ?_
                  refine wp_region_held_drew (S:=(fun V=>(∀o,V.cell? ⟨B5,o,none⟩=([I x.id,.string x.ty,I x.fr,I x.to,.slice pa pn pc]:List Value)[o]?)∧(∀o9,V.cell? ⟨B1,o9,none⟩=([.slice sa sn sc,.slice (some ⟨g,o,none⟩) tn tc]:List Value)[o9]?)∧G wb V)) (by kernel_rfl) (HS.out _ ((G.refl _).drew)) (fun hHeld=>?_)
                  refine wpAnyH_take (i:=0) (v:=?_) rfl (by kernel_rfl) (by kernel_rfl) (by kernel_rfl) (fun _ _ _ h=>h) (Or.inl ⟨by rfl,?_⟩) hHeld ?_
                  rotate_left 1
                  · (intro w hSw;obtain⟨q1,q2,-⟩:=hSw;go_simp;try with_reducible rfl)
                  try simp only[Act.put,zzA,zzB,zzD,zzE,zzF]
                  refine wpAnyH_take (i:=1) (v:=?_) rfl (by kernel_rfl) (by kernel_rfl) (by kernel_rfl) (fun _ _ _ h=>h) (Or.inl ⟨by rfl,?_⟩) hHeld ?_
                  rotate_left 1
                  · (intro w hSw;obtain⟨q1,q2,-⟩:=hSw;go_simp;try with_reducible rfl)
                  try simp only[Act.put,zzA,zzB,zzC,zzD,zzE,zzF]
                  refine wpAnyH_take (i:=2) (v:=(.bool false)) rfl (by kernel_rfl) (by kernel_rfl) (by kernel_rfl) (fun _ _ _ h=>h) (Or.inl ⟨by rfl,?_⟩) hHeld ?_
                  · (intro w hSw;first|(go_simp;done)|(go_simp;exact a1)|(go_simp;simp[a1]))
                  try simp only[Act.put,zzA,zzB,zzC,zzD,zzE,zzF]
                  refine wpAnyH_take (i:=3) (v:=?_) rfl (by kernel_rfl) (by kernel_rfl) (by kernel_rfl) (fun _ _ _ h=>h) (Or.inl ⟨by rfl,?_⟩) hHeld ?_
                  rotate_left 1
                  · (intro w hSw;(try dsimp only at hSw);go_simp;try with_reducible rfl)
                  try simp only[Act.put,zzA,zzB,zzC,zzD,zzE,zzF]
                  refine wpAnyH_take (i:=4) (v:=?_) rfl (by kernel_rfl) (by kernel_rfl) (by kernel_rfl) (fun _ _ _ h=>h) (Or.inl ⟨by rfl,?_⟩) hHeld ?_
                  rotate_left 1
                  · (intro w hSw;(try dsimp only at hSw);go_simp;try with_reducible rfl)
                  try simp only[Act.put,zzA,zzB,zzC,zzD,zzE,zzF]
                  refine wpAnyH_take (i:=5) (v:=(.bool false)) rfl (by kernel_rfl) (by kernel_rfl) (by kernel_rfl) (fun _ _ _ h=>h) (Or.inl ⟨by rfl,?_⟩) hHeld ?_
                  · (intro w hSw;first|(go_simp;done)|(go_simp;exact n1)|(go_simp;exact n0)|(go_simp;simp[n1,n0]))
                  try simp only[Act.put,zzA,zzB,zzC,zzD,zzE,zzF]
                  refine wpAnyH_take (i:=6) (v:=?_) rfl (by kernel_rfl) (by kernel_rfl) (by kernel_rfl) (fun _ _ _ h=>h) (Or.inl ⟨by rfl,?_⟩) hHeld ?_
                  rotate_left 1
                  · (intro w hSw;(try dsimp only at hSw);go_simp;try with_reducible rfl)
                  try simp only[Act.put,zzA,zzB,zzC,zzD,zzE,zzF]
                  refine wpAnyH_take (i:=7) (v:=undef) rfl (by kernel_rfl) (by kernel_rfl) (by kernel_rfl) (fun _ _ _ h=>h) (Or.inr ⟨by rfl,rfl⟩) hHeld ?_
                  try simp only[Act.put,zzA,zzB,zzC,zzD,zzE,zzF]
                  refine wpAnyH_take (i:=8) (v:=undef) rfl (by kernel_rfl) (by kernel_rfl) (by kernel_rfl) (fun _ _ _ h=>h) (Or.inr ⟨by rfl,rfl⟩) hHeld ?_
                  try simp only[Act.put,zzA,zzB,zzC,zzD,zzE,zzF]
                  refine wpAnyH_take (i:=9) (v:=undef) rfl (by kernel_rfl) (by kernel_rfl) (by kernel_rfl) (fun _ _ _ h=>h) (Or.inr ⟨by rfl,rfl⟩) hHeld ?_
                  try simp only[Act.put,zzA,zzB,zzC,zzD,zzE,zzF]
                  refine wpAnyH_take (i:=10) (v:=undef) rfl (by kernel_rfl) (by kernel_rfl) (by kernel_rfl) (fun _ _ _ h=>h) (Or.inr ⟨by rfl,rfl⟩) hHeld ?_
                  try simp only[Act.put,zzA,zzB,zzC,zzD,zzE,zzF]
                  refine wpAnyH_take (i:=11) (v:=undef) rfl (by kernel_rfl) (by kernel_rfl) (by kernel_rfl) (fun _ _ _ h=>h) (Or.inr ⟨by rfl,rfl⟩) hHeld ?_
                  try simp only[Act.put,zzA,zzB,zzC,zzD,zzE,zzF]
                  refine wpAnyH_take (i:=12) (v:=undef) rfl (by kernel_rfl) (by kernel_rfl) (by kernel_rfl) (fun _ _ _ h=>h) (Or.inr ⟨by rfl,rfl⟩) hHeld ?_
                  try simp only[Act.put,zzA,zzB,zzC,zzD,zzE,zzF]
                  refine wpAnyH_take (i:=13) (v:=undef) rfl (by kernel_rfl) (by kernel_rfl) (by kernel_rfl) (fun _ _ _ h=>h) (Or.inr ⟨by rfl,rfl⟩) hHeld ?_
                  try simp only[Act.put,zzA,zzB,zzC,zzD,zzE,zzF]
                  refine wpAnyH_take (i:=14) (v:=undef) rfl (by kernel_rfl) (by kernel_rfl) (by kernel_rfl) (fun _ _ _ h=>h) (Or.inr ⟨by rfl,rfl⟩) hHeld ?_
                  try simp only[Act.put,zzA,zzB,zzC,zzD,zzE,zzF]
                  refine wpAnyH_take (i:=15) (v:=undef) rfl (by kernel_rfl) (by kernel_rfl) (by kernel_rfl) (fun _ _ _ h=>h) (Or.inr ⟨by rfl,rfl⟩) hHeld ?_
                  try simp only[Act.put,zzA,zzB,zzC,zzD,zzE,zzF]
                  refine wpAnyH_take (i:=16) (v:=undef) rfl (by kernel_rfl) (by kernel_rfl) (by kernel_rfl) (fun _ _ _ h=>h) (Or.inr ⟨by rfl,rfl⟩) hHeld ?_
                  try simp only[Act.put,zzA,zzB,zzC,zzD,zzE,zzF]
                  refine wpAnyH_take (i:=17) (v:=?_) rfl (by kernel_rfl) (by kernel_rfl) (by kernel_rfl) (fun _ _ _ h=>h) (Or.inl ⟨by rfl,?_⟩) hHeld ?_
                  rotate_left 1
                  · (intro w hSw;(try dsimp only at hSw);go_simp;try with_reducible rfl)
                  try simp only[Act.put,zzA,zzB,zzC,zzD,zzE,zzF]
                  refine wpAnyH_take (i:=18) (v:=?_) rfl (by kernel_rfl) (by kernel_rfl) (by kernel_rfl) (fun _ _ _ h=>h) (Or.inl ⟨by rfl,?_⟩) hHeld ?_
                  rotate_left 1
                  · (intro w hSw;(try dsimp only at hSw);go_simp;try with_reducible rfl)
                  try simp only[Act.put,zzA,zzB,zzC,zzD,zzE,zzF]
                  refine wpAnyH_take (i:=19) (v:=?_) rfl (by kernel_rfl) (by kernel_rfl) (by kernel_rfl) (fun _ _ _ h=>h) (Or.inl ⟨by rfl,?_⟩) hHeld ?_
                  rotate_left 1
                  · (intro w hSw;(try dsimp only at hSw);go_simp;try with_reducible rfl)
                  try simp only[Act.put,zzA,zzB,zzC,zzD,zzE,zzF]
                  refine wpAnyH_take (i:=20) (v:=?_) rfl (by kernel_rfl) (by kernel_rfl) (by kernel_rfl) (fun _ _ _ h=>h) (Or.inl ⟨by rfl,?_⟩) hHeld ?_
                  rotate_left 1
                  · (intro w hSw;(try dsimp only at hSw);go_simp;try with_reducible rfl)
                  try simp only[Act.put,zzA,zzB,zzC,zzD,zzE,zzF]
                  refine wpAnyH_take (i:=21) (v:=?_) rfl (by kernel_rfl) (by kernel_rfl) (by kernel_rfl) (fun _ _ _ h=>h) (Or.inl ⟨by rfl,?_⟩) hHeld ?_
                  rotate_left 1
                  · (intro w hSw;obtain⟨q1,q2,-⟩:=hSw;go_simp;try with_reducible rfl)
                  try simp only[Act.put,zzA,zzB,zzC,zzD,zzE,zzF]
                  refine wpAnyH_ready (rs:=[22]) (by kernel_rfl) (by simp) (AllReadyH.cons rfl (fun K hK=>?_) AllReadyH.nil)
                  clear hHeld
                  (try refine(if_pos rfl).mpr ?_)
                  go_simp
                  refine(KN.out _ ((G.refl wb).drew)).mono ?_
                  rintro e w5 ⟨rfl,g5'⟩
                  have g5:G wb w5:=((G.refl wb).drew).trans g5'
                  clear g5'
                  go_wp2_with fail
                  refine hK.out _ _ (HS.out w5 g5) (fun hHeld=>?_)
                  clear hK K
                  try simp only[Act.put,zzA,zzB,zzC,zzD,zzE,zzF]
                  refine wpAnyH_take (i:=23) (v:=?_) rfl (by kernel_rfl) (by kernel_rfl) (by kernel_rfl) (fun _ _ _ h=>h) (Or.inl ⟨by rfl,?_⟩) hHeld ?_
                  rotate_left 1
                  · (intro w hSw;(try dsimp only at hSw);go_simp;try with_reducible rfl)
                  try simp only[Act.put,zzA,zzB,zzC,zzD,zzE,zzF]
                  refine wpAnyH_take (i:=24) (v:=?_) rfl (by kernel_rfl) (by kernel_rfl) (by kernel_rfl) (fun _ _ _ h=>h) (Or.inl ⟨by rfl,?_⟩) hHeld ?_
                  rotate_left 1
                  · (intro w hSw;(try dsimp only at hSw);go_simp;try with_reducible rfl)
                  try simp only[Act.put,zzA,zzB,zzC,zzD,zzE,zzF]
                  refine wpAnyH_take (i:=25) (v:=?_) rfl (by kernel_rfl) (by kernel_rfl) (by kernel_rfl) (fun _ _ _ h=>h) (Or.inl ⟨by rfl,?_⟩) hHeld ?_
                  rotate_left 1
                  · (intro w hSw;(try dsimp only at hSw);go_simp;try with_reducible rfl)
                  try simp only[Act.put,zzA,zzB,zzC,zzD,zzE,zzF]
                  refine wpAnyH_take (i:=26) (v:=?_) rfl (by kernel_rfl) (by kernel_rfl) (by kernel_rfl) (fun _ _ _ h=>h) (Or.inl ⟨by rfl,?_⟩) hHeld ?_
                  rotate_left 1
                  · (intro w hSw;(try dsimp only at hSw);go_simp;try with_reducible rfl)
                  try simp only[Act.put,zzA,zzB,zzC,zzD,zzE,zzF]
                  refine wpAnyH_take (i:=27) (v:=?_) rfl (by kernel_rfl) (by kernel_rfl) (by kernel_rfl) (fun _ _ _ h=>h) (Or.inl ⟨by rfl,?_⟩) hHeld ?_
                  rotate_left 1
                  · (intro w hSw;obtain⟨q1,q2,-⟩:=hSw;go_simp;try with_reducible rfl)
                  try simp only[Act.put,zzA,zzB,zzC,zzD,zzE,zzF]
                  refine wpAnyH_ready (rs:=[28]) (by kernel_rfl) (by simp) (AllReadyH.cons rfl (fun K hK=>?_) AllReadyH.nil)
                  clear hHeld
                  (try refine(if_pos rfl).mpr ?_)
                  go_simp
                  refine(K2.out _ g5).mono ?_
                  rintro e w6 ⟨rfl,g6'⟩
                  have g6:G wb w6:=g5.trans g6'
                  clear g6'
                  go_wp2_with fail
                  refine hK.out _ _ (HS.out w6 g6) (fun hHeld=>?_)
                  clear hK K
                  try simp only[Act.put,zzA,zzB,zzC,zzD,zzE,zzF]
                  refine wpAnyH_take (i:=29) (v:=?_) rfl (by kernel_rfl) (by kernel_rfl) (by kernel_rfl) (fun _ _ _ h=>h) (Or.inl ⟨by rfl,?_⟩) hHeld ?_
                  rotate_left 1
                  · (intro w hSw;(try dsimp only at hSw);go_simp;try with_reducible rfl)
                  try simp only[Act.put,zzA,zzB,zzC,zzD,zzE,zzF]
                  refine wpAnyH_take (i:=30) (v:=?_) rfl (by kernel_rfl) (by kernel_rfl) (by kernel_rfl) (fun _ _ _ h=>h) (Or.inl ⟨by rfl,?_⟩) hHeld ?_
                  rotate_left 1
                  · (intro w hSw;(try dsimp only at hSw);go_simp;try with_reducible rfl)
                  try simp only[Act.put,zzA,zzB,zzC,zzD,zzE,zzF]
                  refine wpAnyH_take (i:=31) (v:=?_) rfl (by kernel_rfl) (by kernel_rfl) (by kernel_rfl) (fun _ _ _ h=>h) (Or.inl ⟨by rfl,?_⟩) hHeld ?_
                  rotate_left 1
                  · (intro w hSw;(try dsimp only at hSw);go_simp;try with_reducible rfl)
                  try simp only[Act.put,zzA,zzB,zzC,zzD,zzE,zzF]
                  refine wpAnyH_take (i:=32) (v:=undef) rfl (by kernel_rfl) (by kernel_rfl) (by kernel_rfl) (fun _ _ _ h=>h) (Or.inr ⟨by rfl,rfl⟩) hHeld ?_
                  try simp only[Act.put,zzA,zzB,zzC,zzD,zzE,zzF]
                  refine wpAnyH_take (i:=33) (v:=undef) rfl (by kernel_rfl) (by kernel_rfl) (by kernel_rfl) (fun _ _ _ h=>h) (Or.inr ⟨by rfl,rfl⟩) hHeld ?_
                  try simp only[Act.put,zzA,zzB,zzC,zzD,zzE,zzF]
                  refine wpAnyH_take (i:=34) (v:=undef) rfl (by kernel_rfl) (by kernel_rfl) (by kernel_rfl) (fun _ _ _ h=>h) (Or.inr ⟨by rfl,rfl⟩) hHeld ?_
                  try simp only[Act.put,zzA,zzB,zzC,zzD,zzE,zzF]
                  refine wpAnyH_take (i:=35) (v:=undef) rfl (by kernel_rfl) (by kernel_rfl) (by kernel_rfl) (fun _ _ _ h=>h) (Or.inr ⟨by rfl,rfl⟩) hHeld ?_
                  try simp only[Act.put,zzA,zzB,zzC,zzD,zzE,zzF]
                  refine wpAnyH_take (i:=36) (v:=?_) rfl (by kernel_rfl) (by kernel_rfl) (by kernel_rfl) (fun _ _ _ h=>h) (Or.inl ⟨by rfl,?_⟩) hHeld ?_
                  rotate_left 1
                  · (intro w hSw;(try dsimp only at hSw);go_simp;try with_reducible rfl)
                  try simp only[Act.put,zzA,zzB,zzC,zzD,zzE,zzF]
                  refine wpAnyH_done (by kernel_rfl) ?_ _
                  refine NoPanic.normal ?_
                  go_wp2_with fail
                  go_ret
                  exact⟨by rw[HF.out]<;>rfl,HGB.out.trans g6⟩
                | true=>
                  rw[hb2] at K2
                  cases hb3:goodB x.ps with
                  | false=>
                    rw[hb3] at K3
                    have HF:Hid (bb=false):=HBB.out (by rw[HR.out,hst];simp only[edgeOk,propsOk,hb3,Bool.false_and,Bool.and_false])
                    clear hb1 hb2 hb3 hst
                    have HS:Hid (∀V,G wb V→(∀o,V.cell? ⟨B5,o,none⟩=([I x.id,.string x.ty,I x.fr,I x.to,.slice pa pn pc]:List Value)[o]?)∧(∀o9,V.cell? ⟨B1,o9,none⟩=([.slice sa sn sc,.slice (some ⟨g,o,none⟩) tn tc]:List Value)[o9]?)∧G wb V):=fun V h=>⟨(HB5.out.G h).cell,(HB1W.out.G h).cell,h⟩
                    go_wp2_with fail
                    rw[HEB.out]
                    try rw[HE5.out]
                    refine wp_region_noPanic ?_
                    refine wp_region_held_drew (S:=(fun V=>(∀o,V.cell? ⟨B5,o,none⟩=([I x.id,.string x.ty,I x.fr,I x.to,.slice pa pn pc]:List Value)[o]?)∧(∀o9,V.cell? ⟨B1,o9,none⟩=([.slice sa sn sc,.slice (some ⟨g,o,none⟩) tn tc]:List Value)[o9]?)∧G wb V)) (by kernel_rfl) (HS.out _ ((G.refl _).drew)) (fun hHeld=>?_)
                    refine wpAnyH_take (i:=0) (v:=?_) rfl (by kernel_rfl) (by kernel_rfl) (by kernel_rfl) (fun _ _ _ h=>h) (Or.inl ⟨by rfl,?_⟩) hHeld ?_
                    rotate_left 1
                    · (intro w hSw;obtain⟨q1,q2,-⟩:=hSw;go_simp;try with_reducible rfl)
                    try simp only[Act.put,zzA,zzB,zzD,zzE,zzF]
                    refine wpAnyH_take (i:=1) (v:=?_) rfl (by kernel_rfl) (by kernel_rfl) (by kernel_rfl) (fun _ _ _ h=>h) (Or.inl ⟨by rfl,?_⟩) hHeld ?_
                    rotate_left 1
                    · (intro w hSw;obtain⟨q1,q2,-⟩:=hSw;go_simp;try with_reducible rfl)
                    try simp only[Act.put,zzA,zzB,zzC,zzD,zzE,zzF]
                    refine wpAnyH_take (i:=2) (v:=(.bool false)) rfl (by kernel_rfl) (by kernel_rfl) (by kernel_rfl) (fun _ _ _ h=>h) (Or.inl ⟨by rfl,?_⟩) hHeld ?_
                    · (intro w hSw;first|(go_simp;done)|(go_simp;exact a1)|(go_simp;simp[a1]))
                    try simp only[Act.put,zzA,zzB,zzC,zzD,zzE,zzF]
                    refine wpAnyH_take (i:=3) (v:=?_) rfl (by kernel_rfl) (by kernel_rfl) (by kernel_rfl) (fun _ _ _ h=>h) (Or.inl ⟨by rfl,?_⟩) hHeld ?_
                    rotate_left 1
                    · (intro w hSw;(try dsimp only at hSw);go_simp;try with_reducible rfl)
                    try simp only[Act.put,zzA,zzB,zzC,zzD,zzE,zzF]
                    refine wpAnyH_take (i:=4) (v:=?_) rfl (by kernel_rfl) (by kernel_rfl) (by kernel_rfl) (fun _ _ _ h=>h) (Or.inl ⟨by rfl,?_⟩) hHeld ?_
                    rotate_left 1
                    · (intro w hSw;(try dsimp only at hSw);go_simp;try with_reducible rfl)
                    try simp only[Act.put,zzA,zzB,zzC,zzD,zzE,zzF]
                    refine wpAnyH_take (i:=5) (v:=(.bool false)) rfl (by kernel_rfl) (by kernel_rfl) (by kernel_rfl) (fun _ _ _ h=>h) (Or.inl ⟨by rfl,?_⟩) hHeld ?_
                    · (intro w hSw;first|(go_simp;done)|(go_simp;exact n1)|(go_simp;exact n0)|(go_simp;simp[n1,n0]))
                    try simp only[Act.put,zzA,zzB,zzC,zzD,zzE,zzF]
                    refine wpAnyH_take (i:=6) (v:=?_) rfl (by kernel_rfl) (by kernel_rfl) (by kernel_rfl) (fun _ _ _ h=>h) (Or.inl ⟨by rfl,?_⟩) hHeld ?_
                    rotate_left 1
                    · (intro w hSw;(try dsimp only at hSw);go_simp;try with_reducible rfl)
                    try simp only[Act.put,zzA,zzB,zzC,zzD,zzE,zzF]
                    refine wpAnyH_take (i:=7) (v:=undef) rfl (by kernel_rfl) (by kernel_rfl) (by kernel_rfl) (fun _ _ _ h=>h) (Or.inr ⟨by rfl,rfl⟩) hHeld ?_
                    try simp only[Act.put,zzA,zzB,zzC,zzD,zzE,zzF]
                    refine wpAnyH_take (i:=8) (v:=undef) rfl (by kernel_rfl) (by kernel_rfl) (by kernel_rfl) (fun _ _ _ h=>h) (Or.inr ⟨by rfl,rfl⟩) hHeld ?_
                    try simp only[Act.put,zzA,zzB,zzC,zzD,zzE,zzF]
                    refine wpAnyH_take (i:=9) (v:=undef) rfl (by kernel_rfl) (by kernel_rfl) (by kernel_rfl) (fun _ _ _ h=>h) (Or.inr ⟨by rfl,rfl⟩) hHeld ?_
                    try simp only[Act.put,zzA,zzB,zzC,zzD,zzE,zzF]
                    refine wpAnyH_take (i:=10) (v:=undef) rfl (by kernel_rfl) (by kernel_rfl) (by kernel_rfl) (fun _ _ _ h=>h) (Or.inr ⟨by rfl,rfl⟩) hHeld ?_
                    try simp only[Act.put,zzA,zzB,zzC,zzD,zzE,zzF]
                    refine wpAnyH_take (i:=11) (v:=undef) rfl (by kernel_rfl) (by kernel_rfl) (by kernel_rfl) (fun _ _ _ h=>h) (Or.inr ⟨by rfl,rfl⟩) hHeld ?_
                    try simp only[Act.put,zzA,zzB,zzC,zzD,zzE,zzF]
                    refine wpAnyH_take (i:=12) (v:=undef) rfl (by kernel_rfl) (by kernel_rfl) (by kernel_rfl) (fun _ _ _ h=>h) (Or.inr ⟨by rfl,rfl⟩) hHeld ?_
                    try simp only[Act.put,zzA,zzB,zzC,zzD,zzE,zzF]
                    refine wpAnyH_take (i:=13) (v:=undef) rfl (by kernel_rfl) (by kernel_rfl) (by kernel_rfl) (fun _ _ _ h=>h) (Or.inr ⟨by rfl,rfl⟩) hHeld ?_
                    try simp only[Act.put,zzA,zzB,zzC,zzD,zzE,zzF]
                    refine wpAnyH_take (i:=14) (v:=undef) rfl (by kernel_rfl) (by kernel_rfl) (by kernel_rfl) (fun _ _ _ h=>h) (Or.inr ⟨by rfl,rfl⟩) hHeld ?_
                    try simp only[Act.put,zzA,zzB,zzC,zzD,zzE,zzF]
                    refine wpAnyH_take (i:=15) (v:=undef) rfl (by kernel_rfl) (by kernel_rfl) (by kernel_rfl) (fun _ _ _ h=>h) (Or.inr ⟨by rfl,rfl⟩) hHeld ?_
                    try simp only[Act.put,zzA,zzB,zzC,zzD,zzE,zzF]
                    refine wpAnyH_take (i:=16) (v:=undef) rfl (by kernel_rfl) (by kernel_rfl) (by kernel_rfl) (fun _ _ _ h=>h) (Or.inr ⟨by rfl,rfl⟩) hHeld ?_
                    try simp only[Act.put,zzA,zzB,zzC,zzD,zzE,zzF]
                    refine wpAnyH_take (i:=17) (v:=?_) rfl (by kernel_rfl) (by kernel_rfl) (by kernel_rfl) (fun _ _ _ h=>h) (Or.inl ⟨by rfl,?_⟩) hHeld ?_
                    rotate_left 1
                    · (intro w hSw;(try dsimp only at hSw);go_simp;try with_reducible rfl)
                    try simp only[Act.put,zzA,zzB,zzC,zzD,zzE,zzF]
                    refine wpAnyH_take (i:=18) (v:=?_) rfl (by kernel_rfl) (by kernel_rfl) (by kernel_rfl) (fun _ _ _ h=>h) (Or.inl ⟨by rfl,?_⟩) hHeld ?_
                    rotate_left 1
                    · (intro w hSw;(try dsimp only at hSw);go_simp;try with_reducible rfl)
                    try simp only[Act.put,zzA,zzB,zzC,zzD,zzE,zzF]
                    refine wpAnyH_take (i:=19) (v:=?_) rfl (by kernel_rfl) (by kernel_rfl) (by kernel_rfl) (fun _ _ _ h=>h) (Or.inl ⟨by rfl,?_⟩) hHeld ?_
                    rotate_left 1
                    · (intro w hSw;(try dsimp only at hSw);go_simp;try with_reducible rfl)
                    try simp only[Act.put,zzA,zzB,zzC,zzD,zzE,zzF]
                    refine wpAnyH_take (i:=20) (v:=?_) rfl (by kernel_rfl) (by kernel_rfl) (by kernel_rfl) (fun _ _ _ h=>h) (Or.inl ⟨by rfl,?_⟩) hHeld ?_
                    rotate_left 1
                    · (intro w hSw;(try dsimp only at hSw);go_simp;try with_reducible rfl)
                    try simp only[Act.put,zzA,zzB,zzC,zzD,zzE,zzF]
                    refine wpAnyH_take (i:=21) (v:=?_) rfl (by kernel_rfl) (by kernel_rfl) (by kernel_rfl) (fun _ _ _ h=>h) (Or.inl ⟨by rfl,?_⟩) hHeld ?_
                    rotate_left 1
                    · (intro w hSw;obtain⟨q1,q2,-⟩:=hSw;go_simp;try with_reducible rfl)
                    try simp only[Act.put,zzA,zzB,zzC,zzD,zzE,zzF]
                    refine wpAnyH_ready (rs:=[22]) (by kernel_rfl) (by simp) (AllReadyH.cons rfl (fun K hK=>?_) AllReadyH.nil)
                    clear hHeld
                    (try refine(if_pos rfl).mpr ?_)
                    go_simp
                    refine(KN.out _ ((G.refl wb).drew)).mono ?_
                    rintro e w5 ⟨rfl,g5'⟩
                    have g5:G wb w5:=((G.refl wb).drew).trans g5'
                    clear g5'
                    go_wp2_with fail
                    refine hK.out _ _ (HS.out w5 g5) (fun hHeld=>?_)
                    clear hK K
                    try simp only[Act.put,zzA,zzB,zzC,zzD,zzE,zzF]
                    refine wpAnyH_take (i:=23) (v:=?_) rfl (by kernel_rfl) (by kernel_rfl) (by kernel_rfl) (fun _ _ _ h=>h) (Or.inl ⟨by rfl,?_⟩) hHeld ?_
                    rotate_left 1
                    · (intro w hSw;(try dsimp only at hSw);go_simp;try with_reducible rfl)
                    try simp only[Act.put,zzA,zzB,zzC,zzD,zzE,zzF]
                    refine wpAnyH_take (i:=24) (v:=?_) rfl (by kernel_rfl) (by kernel_rfl) (by kernel_rfl) (fun _ _ _ h=>h) (Or.inl ⟨by rfl,?_⟩) hHeld ?_
                    rotate_left 1
                    · (intro w hSw;(try dsimp only at hSw);go_simp;try with_reducible rfl)
                    try simp only[Act.put,zzA,zzB,zzC,zzD,zzE,zzF]
                    refine wpAnyH_take (i:=25) (v:=?_) rfl (by kernel_rfl) (by kernel_rfl) (by kernel_rfl) (fun _ _ _ h=>h) (Or.inl ⟨by rfl,?_⟩) hHeld ?_
                    rotate_left 1
                    · (intro w hSw;(try dsimp only at hSw);go_simp;try with_reducible rfl)
                    try simp only[Act.put,zzA,zzB,zzC,zzD,zzE,zzF]
                    refine wpAnyH_take (i:=26) (v:=?_) rfl (by kernel_rfl) (by kernel_rfl) (by kernel_rfl) (fun _ _ _ h=>h) (Or.inl ⟨by rfl,?_⟩) hHeld ?_
                    rotate_left 1
                    · (intro w hSw;(try dsimp only at hSw);go_simp;try with_reducible rfl)
                    try simp only[Act.put,zzA,zzB,zzC,zzD,zzE,zzF]
                    refine wpAnyH_take (i:=27) (v:=?_) rfl (by kernel_rfl) (by kernel_rfl) (by kernel_rfl) (fun _ _ _ h=>h) (Or.inl ⟨by rfl,?_⟩) hHeld ?_
                    rotate_left 1
                    · (intro w hSw;obtain⟨q1,q2,-⟩:=hSw;go_simp;try with_reducible rfl)
                    try simp only[Act.put,zzA,zzB,zzC,zzD,zzE,zzF]
                    refine wpAnyH_ready (rs:=[28]) (by kernel_rfl) (by simp) (AllReadyH.cons rfl (fun K hK=>?_) AllReadyH.nil)
                    clear hHeld
                    (try refine(if_pos rfl).mpr ?_)
                    go_simp
                    refine(K2.out _ g5).mono ?_
                    rintro e w6 ⟨rfl,g6'⟩
                    have g6:G wb w6:=g5.trans g6'
                    clear g6'
                    go_wp2_with fail
                    refine hK.out _ _ (HS.out w6 g6) (fun hHeld=>?_)
                    clear hK K
                    try simp only[Act.put,zzA,zzB,zzC,zzD,zzE,zzF]
                    refine wpAnyH_take (i:=29) (v:=?_) rfl (by kernel_rfl) (by kernel_rfl) (by kernel_rfl) (fun _ _ _ h=>h) (Or.inl ⟨by rfl,?_⟩) hHeld ?_
                    rotate_left 1
                    · (intro w hSw;(try dsimp only at hSw);go_simp;try with_reducible rfl)
                    try simp only[Act.put,zzA,zzB,zzC,zzD,zzE,zzF]
                    refine wpAnyH_take (i:=30) (v:=?_) rfl (by kernel_rfl) (by kernel_rfl) (by kernel_rfl) (fun _ _ _ h=>h) (Or.inl ⟨by rfl,?_⟩) hHeld ?_
                    rotate_left 1
                    · (intro w hSw;(try dsimp only at hSw);go_simp;try with_reducible rfl)
                    try simp only[Act.put,zzA,zzB,zzC,zzD,zzE,zzF]
                    refine wpAnyH_take (i:=31) (v:=?_) rfl (by kernel_rfl) (by kernel_rfl) (by kernel_rfl) (fun _ _ _ h=>h) (Or.inl ⟨by rfl,?_⟩) hHeld ?_
                    rotate_left 1
                    · (intro w hSw;(try dsimp only at hSw);go_simp;try with_reducible rfl)
                    try simp only[Act.put,zzA,zzB,zzC,zzD,zzE,zzF]
                    refine wpAnyH_take (i:=32) (v:=?_) rfl (by kernel_rfl) (by kernel_rfl) (by kernel_rfl) (fun _ _ _ h=>h) (Or.inl ⟨by rfl,?_⟩) hHeld ?_
                    rotate_left 1
                    · (intro w hSw;(try dsimp only at hSw);go_simp;try with_reducible rfl)
                    try simp only[Act.put,zzA,zzB,zzC,zzD,zzE,zzF]
                    refine wpAnyH_take (i:=33) (v:=?_) rfl (by kernel_rfl) (by kernel_rfl) (by kernel_rfl) (fun _ _ _ h=>h) (Or.inl ⟨by rfl,?_⟩) hHeld ?_
                    rotate_left 1
                    · (intro w hSw;obtain⟨q1,q2,-⟩:=hSw;go_simp;try with_reducible rfl)
                    try simp only[Act.put,zzA,zzB,zzC,zzD,zzE,zzF]
                    refine wpAnyH_ready (rs:=[34]) (by kernel_rfl) (by simp) (AllReadyH.cons rfl (fun K hK=>?_) AllReadyH.nil)
                    clear hHeld
                    (try refine(if_pos rfl).mpr ?_)
                    go_simp
                    refine(K3.out _ g6).mono ?_
                    rintro e w7 ⟨rfl,g7'⟩
                    have g7:G wb w7:=g6.trans g7'
                    clear g7'
                    go_wp2_with fail
                    refine hK.out _ _ (HS.out w7 g7) (fun hHeld=>?_)
                    clear hK K
                    try simp only[Act.put,zzA,zzB,zzC,zzD,zzE,zzF]
                    refine wpAnyH_take (i:=35) (v:=?_) rfl (by kernel_rfl) (by kernel_rfl) (by kernel_rfl) (fun _ _ _ h=>h) (Or.inl ⟨by rfl,?_⟩) hHeld ?_
                    rotate_left 1
                    · (intro w hSw;(try dsimp only at hSw);go_simp;try with_reducible rfl)
                    try simp only[Act.put,zzA,zzB,zzC,zzD,zzE,zzF]
                    refine wpAnyH_take (i:=36) (v:=?_) rfl (by kernel_rfl) (by kernel_rfl) (by kernel_rfl) (fun _ _ _ h=>h) (Or.inl ⟨by rfl,?_⟩) hHeld ?_
                    rotate_left 1
                    · (intro w hSw;(try dsimp only at hSw);go_simp;try with_reducible rfl)
                    try simp only[Act.put,zzA,zzB,zzC,zzD,zzE,zzF]
                    refine wpAnyH_done (by kernel_rfl) ?_ _
                    refine NoPanic.normal ?_
                    go_wp2_with fail
                    go_ret
                    exact⟨by rw[HF.out]<;>rfl,HGB.out.trans g7⟩
                  | true=>
                    rw[hb3] at K3
                    have HB2:=hide hb2;have HB3:=hide hb3
                    clear hb2 hb3
                    have HS:Hid (∀V,G wb V→(∀o,V.cell? ⟨B5,o,none⟩=([I x.id,.string x.ty,I x.fr,I x.to,.slice pa pn pc]:List Value)[o]?)∧(∀o9,V.cell? ⟨B1,o9,none⟩=([.slice sa sn sc,.slice (some ⟨g,o,none⟩) tn tc]:List Value)[o9]?)∧G wb V):=fun V h=>⟨(HB5.out.G h).cell,(HB1W.out.G h).cell,h⟩
                    go_wp2_with fail
                    rw[HEB.out]
                    try rw[HE5.out]
                    refine wp_region_noPanic ?_
                    refine wp_region_held_drew (S:=(fun V=>(∀o,V.cell? ⟨B5,o,none⟩=([I x.id,.string x.ty,I x.fr,I x.to,.slice pa pn pc]:List Value)[o]?)∧(∀o9,V.cell? ⟨B1,o9,none⟩=([.slice sa sn sc,.slice (some ⟨g,o,none⟩) tn tc]:List Value)[o9]?)∧G wb V)) (by kernel_rfl) (HS.out _ ((G.refl _).drew)) (fun hHeld=>?_)
                    refine wpAnyH_take (i:=0) (v:=?_) rfl (by kernel_rfl) (by kernel_rfl) (by kernel_rfl) (fun _ _ _ h=>h) (Or.inl ⟨by rfl,?_⟩) hHeld ?_
                    rotate_left 1
                    · (intro w hSw;obtain⟨q1,q2,-⟩:=hSw;go_simp;try with_reducible rfl)
                    try simp only[Act.put,zzA,zzB,zzD,zzE,zzF]
                    refine wpAnyH_take (i:=1) (v:=?_) rfl (by kernel_rfl) (by kernel_rfl) (by kernel_rfl) (fun _ _ _ h=>h) (Or.inl ⟨by rfl,?_⟩) hHeld ?_
                    rotate_left 1
                    · (intro w hSw;obtain⟨q1,q2,-⟩:=hSw;go_simp;try with_reducible rfl)
                    try simp only[Act.put,zzA,zzB,zzC,zzD,zzE,zzF]
                    refine wpAnyH_take (i:=2) (v:=(.bool false)) rfl (by kernel_rfl) (by kernel_rfl) (by kernel_rfl) (fun _ _ _ h=>h) (Or.inl ⟨by rfl,?_⟩) hHeld ?_
                    · (intro w hSw;first|(go_simp;done)|(go_simp;exact a1)|(go_simp;simp[a1]))
                    try simp only[Act.put,zzA,zzB,zzC,zzD,zzE,zzF]
                    refine wpAnyH_take (i:=3) (v:=?_) rfl (by kernel_rfl) (by kernel_rfl) (by kernel_rfl) (fun _ _ _ h=>h) (Or.inl ⟨by rfl,?_⟩) hHeld ?_
                    rotate_left 1
                    · (intro w hSw;(try dsimp only at hSw);go_simp;try with_reducible rfl)
                    try simp only[Act.put,zzA,zzB,zzC,zzD,zzE,zzF]
                    refine wpAnyH_take (i:=4) (v:=?_) rfl (by kernel_rfl) (by kernel_rfl) (by kernel_rfl) (fun _ _ _ h=>h) (Or.inl ⟨by rfl,?_⟩) hHeld ?_
                    rotate_left 1
                    · (intro w hSw;(try dsimp only at hSw);go_simp;try with_reducible rfl)
                    try simp only[Act.put,zzA,zzB,zzC,zzD,zzE,zzF]
                    refine wpAnyH_take (i:=5) (v:=(.bool false)) rfl (by kernel_rfl) (by kernel_rfl) (by kernel_rfl) (fun _ _ _ h=>h) (Or.inl ⟨by rfl,?_⟩) hHeld ?_
                    · (intro w hSw;first|(go_simp;done)|(go_simp;exact n1)|(go_simp;exact n0)|(go_simp;simp[n1,n0]))
                    try simp only[Act.put,zzA,zzB,zzC,zzD,zzE,zzF]
                    refine wpAnyH_take (i:=6) (v:=?_) rfl (by kernel_rfl) (by kernel_rfl) (by kernel_rfl) (fun _ _ _ h=>h) (Or.inl ⟨by rfl,?_⟩) hHeld ?_
                    rotate_left 1
                    · (intro w hSw;(try dsimp only at hSw);go_simp;try with_reducible rfl)
                    try simp only[Act.put,zzA,zzB,zzC,zzD,zzE,zzF]
                    refine wpAnyH_take (i:=7) (v:=undef) rfl (by kernel_rfl) (by kernel_rfl) (by kernel_rfl) (fun _ _ _ h=>h) (Or.inr ⟨by rfl,rfl⟩) hHeld ?_
                    try simp only[Act.put,zzA,zzB,zzC,zzD,zzE,zzF]
                    refine wpAnyH_take (i:=8) (v:=undef) rfl (by kernel_rfl) (by kernel_rfl) (by kernel_rfl) (fun _ _ _ h=>h) (Or.inr ⟨by rfl,rfl⟩) hHeld ?_
                    try simp only[Act.put,zzA,zzB,zzC,zzD,zzE,zzF]
                    refine wpAnyH_take (i:=9) (v:=undef) rfl (by kernel_rfl) (by kernel_rfl) (by kernel_rfl) (fun _ _ _ h=>h) (Or.inr ⟨by rfl,rfl⟩) hHeld ?_
                    try simp only[Act.put,zzA,zzB,zzC,zzD,zzE,zzF]
                    refine wpAnyH_take (i:=10) (v:=undef) rfl (by kernel_rfl) (by kernel_rfl) (by kernel_rfl) (fun _ _ _ h=>h) (Or.inr ⟨by rfl,rfl⟩) hHeld ?_
                    try simp only[Act.put,zzA,zzB,zzC,zzD,zzE,zzF]
                    refine wpAnyH_take (i:=11) (v:=undef) rfl (by kernel_rfl) (by kernel_rfl) (by kernel_rfl) (fun _ _ _ h=>h) (Or.inr ⟨by rfl,rfl⟩) hHeld ?_
                    try simp only[Act.put,zzA,zzB,zzC,zzD,zzE,zzF]
                    refine wpAnyH_take (i:=12) (v:=undef) rfl (by kernel_rfl) (by kernel_rfl) (by kernel_rfl) (fun _ _ _ h=>h) (Or.inr ⟨by rfl,rfl⟩) hHeld ?_
                    try simp only[Act.put,zzA,zzB,zzC,zzD,zzE,zzF]
                    refine wpAnyH_take (i:=13) (v:=undef) rfl (by kernel_rfl) (by kernel_rfl) (by kernel_rfl) (fun _ _ _ h=>h) (Or.inr ⟨by rfl,rfl⟩) hHeld ?_
                    try simp only[Act.put,zzA,zzB,zzC,zzD,zzE,zzF]
                    refine wpAnyH_take (i:=14) (v:=undef) rfl (by kernel_rfl) (by kernel_rfl) (by kernel_rfl) (fun _ _ _ h=>h) (Or.inr ⟨by rfl,rfl⟩) hHeld ?_
                    try simp only[Act.put,zzA,zzB,zzC,zzD,zzE,zzF]
                    refine wpAnyH_take (i:=15) (v:=undef) rfl (by kernel_rfl) (by kernel_rfl) (by kernel_rfl) (fun _ _ _ h=>h) (Or.inr ⟨by rfl,rfl⟩) hHeld ?_
                    try simp only[Act.put,zzA,zzB,zzC,zzD,zzE,zzF]
                    refine wpAnyH_take (i:=16) (v:=undef) rfl (by kernel_rfl) (by kernel_rfl) (by kernel_rfl) (fun _ _ _ h=>h) (Or.inr ⟨by rfl,rfl⟩) hHeld ?_
                    try simp only[Act.put,zzA,zzB,zzC,zzD,zzE,zzF]
                    refine wpAnyH_take (i:=17) (v:=?_) rfl (by kernel_rfl) (by kernel_rfl) (by kernel_rfl) (fun _ _ _ h=>h) (Or.inl ⟨by rfl,?_⟩) hHeld ?_
                    rotate_left 1
                    · (intro w hSw;(try dsimp only at hSw);go_simp;try with_reducible rfl)
                    try simp only[Act.put,zzA,zzB,zzC,zzD,zzE,zzF]
                    refine wpAnyH_take (i:=18) (v:=?_) rfl (by kernel_rfl) (by kernel_rfl) (by kernel_rfl) (fun _ _ _ h=>h) (Or.inl ⟨by rfl,?_⟩) hHeld ?_
                    rotate_left 1
                    · (intro w hSw;(try dsimp only at hSw);go_simp;try with_reducible rfl)
                    try simp only[Act.put,zzA,zzB,zzC,zzD,zzE,zzF]
                    refine wpAnyH_take (i:=19) (v:=?_) rfl (by kernel_rfl) (by kernel_rfl) (by kernel_rfl) (fun _ _ _ h=>h) (Or.inl ⟨by rfl,?_⟩) hHeld ?_
                    rotate_left 1
                    · (intro w hSw;(try dsimp only at hSw);go_simp;try with_reducible rfl)
                    try simp only[Act.put,zzA,zzB,zzC,zzD,zzE,zzF]
                    refine wpAnyH_take (i:=20) (v:=?_) rfl (by kernel_rfl) (by kernel_rfl) (by kernel_rfl) (fun _ _ _ h=>h) (Or.inl ⟨by rfl,?_⟩) hHeld ?_
                    rotate_left 1
                    · (intro w hSw;(try dsimp only at hSw);go_simp;try with_reducible rfl)
                    try simp only[Act.put,zzA,zzB,zzC,zzD,zzE,zzF]
                    refine wpAnyH_take (i:=21) (v:=?_) rfl (by kernel_rfl) (by kernel_rfl) (by kernel_rfl) (fun _ _ _ h=>h) (Or.inl ⟨by rfl,?_⟩) hHeld ?_
                    rotate_left 1
                    · (intro w hSw;obtain⟨q1,q2,-⟩:=hSw;go_simp;try with_reducible rfl)
                    try simp only[Act.put,zzA,zzB,zzC,zzD,zzE,zzF]
                    refine wpAnyH_ready (rs:=[22]) (by kernel_rfl) (by simp) (AllReadyH.cons rfl (fun K hK=>?_) AllReadyH.nil)
                    clear hHeld
                    (try refine(if_pos rfl).mpr ?_)
                    go_simp
                    refine(KN.out _ ((G.refl wb).drew)).mono ?_
                    rintro e w5 ⟨rfl,g5'⟩
                    have g5:G wb w5:=((G.refl wb).drew).trans g5'
                    clear g5'
                    go_wp2_with fail
                    refine hK.out _ _ (HS.out w5 g5) (fun hHeld=>?_)
                    clear hK K
                    try simp only[Act.put,zzA,zzB,zzC,zzD,zzE,zzF]
                    refine wpAnyH_take (i:=23) (v:=?_) rfl (by kernel_rfl) (by kernel_rfl) (by kernel_rfl) (fun _ _ _ h=>h) (Or.inl ⟨by rfl,?_⟩) hHeld ?_
                    rotate_left 1
                    · (intro w hSw;(try dsimp only at hSw);go_simp;try with_reducible rfl)
                    try simp only[Act.put,zzA,zzB,zzC,zzD,zzE,zzF]
                    refine wpAnyH_take (i:=24) (v:=?_) rfl (by kernel_rfl) (by kernel_rfl) (by kernel_rfl) (fun _ _ _ h=>h) (Or.inl ⟨by rfl,?_⟩) hHeld ?_
                    rotate_left 1
                    · (intro w hSw;(try dsimp only at hSw);go_simp;try with_reducible rfl)
                    try simp only[Act.put,zzA,zzB,zzC,zzD,zzE,zzF]
                    refine wpAnyH_take (i:=25) (v:=?_) rfl (by kernel_rfl) (by kernel_rfl) (by kernel_rfl) (fun _ _ _ h=>h) (Or.inl ⟨by rfl,?_⟩) hHeld ?_
                    rotate_left 1
                    · (intro w hSw;(try dsimp only at hSw);go_simp;try with_reducible rfl)
                    try simp only[Act.put,zzA,zzB,zzC,zzD,zzE,zzF]
                    refine wpAnyH_take (i:=26) (v:=?_) rfl (by kernel_rfl) (by kernel_rfl) (by kernel_rfl) (fun _ _ _ h=>h) (Or.inl ⟨by rfl,?_⟩) hHeld ?_
                    rotate_left 1
                    · (intro w hSw;(try dsimp only at hSw);go_simp;try with_reducible rfl)
                    try simp only[Act.put,zzA,zzB,zzC,zzD,zzE,zzF]
                    refine wpAnyH_take (i:=27) (v:=?_) rfl (by kernel_rfl) (by kernel_rfl) (by kernel_rfl) (fun _ _ _ h=>h) (Or.inl ⟨by rfl,?_⟩) hHeld ?_
                    rotate_left 1
                    · (intro w hSw;obtain⟨q1,q2,-⟩:=hSw;go_simp;try with_reducible rfl)
                    try simp only[Act.put,zzA,zzB,zzC,zzD,zzE,zzF]
                    refine wpAnyH_ready (rs:=[28]) (by kernel_rfl) (by simp) (AllReadyH.cons rfl (fun K hK=>?_) AllReadyH.nil)
                    clear hHeld
                    (try refine(if_pos rfl).mpr ?_)
                    go_simp
                    refine(K2.out _ g5).mono ?_
                    rintro e w6 ⟨rfl,g6'⟩
                    have g6:G wb w6:=g5.trans g6'
                    clear g6'
                    go_wp2_with fail
                    refine hK.out _ _ (HS.out w6 g6) (fun hHeld=>?_)
                    clear hK K
                    try simp only[Act.put,zzA,zzB,zzC,zzD,zzE,zzF]
                    refine wpAnyH_take (i:=29) (v:=?_) rfl (by kernel_rfl) (by kernel_rfl) (by kernel_rfl) (fun _ _ _ h=>h) (Or.inl ⟨by rfl,?_⟩) hHeld ?_
                    rotate_left 1
                    · (intro w hSw;(try dsimp only at hSw);go_simp;try with_reducible rfl)
                    try simp only[Act.put,zzA,zzB,zzC,zzD,zzE,zzF]
                    refine wpAnyH_take (i:=30) (v:=?_) rfl (by kernel_rfl) (by kernel_rfl) (by kernel_rfl) (fun _ _ _ h=>h) (Or.inl ⟨by rfl,?_⟩) hHeld ?_
                    rotate_left 1
                    · (intro w hSw;(try dsimp only at hSw);go_simp;try with_reducible rfl)
                    try simp only[Act.put,zzA,zzB,zzC,zzD,zzE,zzF]
                    refine wpAnyH_take (i:=31) (v:=?_) rfl (by kernel_rfl) (by kernel_rfl) (by kernel_rfl) (fun _ _ _ h=>h) (Or.inl ⟨by rfl,?_⟩) hHeld ?_
                    rotate_left 1
                    · (intro w hSw;(try dsimp only at hSw);go_simp;try with_reducible rfl)
                    try simp only[Act.put,zzA,zzB,zzC,zzD,zzE,zzF]
                    refine wpAnyH_take (i:=32) (v:=?_) rfl (by kernel_rfl) (by kernel_rfl) (by kernel_rfl) (fun _ _ _ h=>h) (Or.inl ⟨by rfl,?_⟩) hHeld ?_
                    rotate_left 1
                    · (intro w hSw;(try dsimp only at hSw);go_simp;try with_reducible rfl)
                    try simp only[Act.put,zzA,zzB,zzC,zzD,zzE,zzF]
                    refine wpAnyH_take (i:=33) (v:=?_) rfl (by kernel_rfl) (by kernel_rfl) (by kernel_rfl) (fun _ _ _ h=>h) (Or.inl ⟨by rfl,?_⟩) hHeld ?_
                    rotate_left 1
                    · (intro w hSw;obtain⟨q1,q2,-⟩:=hSw;go_simp;try with_reducible rfl)
                    try simp only[Act.put,zzA,zzB,zzC,zzD,zzE,zzF]
                    refine wpAnyH_ready (rs:=[34]) (by kernel_rfl) (by simp) (AllReadyH.cons rfl (fun K hK=>?_) AllReadyH.nil)
                    clear hHeld
                    (try refine(if_pos rfl).mpr ?_)
                    go_simp
                    refine(K3.out _ g6).mono ?_
                    rintro e w7 ⟨rfl,g7'⟩
                    have g7:G wb w7:=g6.trans g7'
                    clear g7'
                    go_wp2_with fail
                    refine hK.out _ _ (HS.out w7 g7) (fun hHeld=>?_)
                    clear hK K
                    try simp only[Act.put,zzA,zzB,zzC,zzD,zzE,zzF]
                    refine wpAnyH_take (i:=35) (v:=?_) rfl (by kernel_rfl) (by kernel_rfl) (by kernel_rfl) (fun _ _ _ h=>h) (Or.inl ⟨by rfl,?_⟩) hHeld ?_
                    rotate_left 1
                    · (intro w hSw;(try dsimp only at hSw);go_simp;try with_reducible rfl)
                    try simp only[Act.put,zzA,zzB,zzC,zzD,zzE,zzF]
                    refine wpAnyH_take (i:=36) (v:=?_) rfl (by kernel_rfl) (by kernel_rfl) (by kernel_rfl) (fun _ _ _ h=>h) (Or.inl ⟨by rfl,?_⟩) hHeld ?_
                    rotate_left 1
                    · (intro w hSw;(try dsimp only at hSw);go_simp;try with_reducible rfl)
                    try simp only[Act.put,zzA,zzB,zzC,zzD,zzE,zzF]
                    refine wpAnyH_done (by kernel_rfl) ?_ _
                    refine NoPanic.normal ?_
                    have kq1:=(HB1W.out.G g7).cell
                    have kq5:=(HB5.out.G g7).cell
                    go_wp2_with fail
                    refine(K4.out w7 g7 x.fr).mono ?_
                    rintro e w8 ⟨⟨r,rfl,hr⟩,g8'⟩
                    have g8:=g7.trans g8'
                    clear g8' kq1 kq5
                    by_cases hm1:x.fr∈ns.map fun y=>y.id
                    · rw[decide_eq_true hm1] at hr
                      have hr2:¬r<0:=of_decide_eq_false hr
                      have kq1:=(HB1W.out.G g8).cell
                      have kq5:=(HB5.out.G g8).cell
                      have HM1:=hide hm1
                      have HB1:=hide hb1;have HST:=hide hst
                      clear hm1 hb1 hst
                      go_wp2_with fail
                      refine(K4.out w8 g8 x.to).mono ?_
                      rintro e w9 ⟨⟨r',rfl,hr'⟩,g9'⟩
                      have g9:=g8.trans g9'
                      clear g9' kq1 kq5
                      by_cases hm2:x.to∈ns.map fun y=>y.id
                      · rw[decide_eq_true hm2] at hr'
                        have hr3:¬r'<0:=of_decide_eq_false hr'
                        have HF:Hid (edgesB (ns.map fun y=>y.id) es=fromB (fun y=>y.id) (edgeOk (ns.map fun y=>y.id)) es (i+1)):=by
                          rw[Hid,HR.out,HST.out]
                          simp only[edgeOk,propsOk,HB1.out,decide_eq_true HM1.out,decide_eq_true hm2,HB2.out,HB3.out,Bool.true_and,Bool.and_true,Bool.not_false]
                        clear hm2
                        go_wp2_with fail
                        exact⟨⟨i+1,by rw[HW.out];exact srl i,HIL.out,.inr (by rw[HPN.out];exact HA1.out),HF.out,HG2.out.trans g9⟩,by rw[HW.out];exact sms HIL.out⟩
                      · rw[decide_eq_false hm2] at hr'
                        have hr3:r'<0:=of_decide_eq_true hr'
                        have HF:Hid (bb=false):=HBB.out (by rw[HR.out,HST.out];simp only[edgeOk,decide_eq_false hm2,Bool.and_false,Bool.false_and])
                        clear hm2
                        go_wp2_with fail
                        go_ret
                        exact⟨by rw[HF.out]<;>rfl,HGB.out.trans g9⟩
                    · rw[decide_eq_false hm1] at hr
                      have hr2:r<0:=of_decide_eq_true hr
                      have HF:Hid (bb=false):=HBB.out (by rw[HR.out,hst];simp only[edgeOk,decide_eq_false hm1,Bool.and_false,Bool.false_and])
                      clear hm1 hb1 hst
                      go_wp2_with fail
                      go_ret
                      exact⟨by rw[HF.out]<;>rfl,HGB.out.trans g8⟩
            · obtain⟨y,hy⟩:∃y,es[i-1]?=some y:=⟨_,List.getElem?_eq_getElem (by omega)⟩
              obtain⟨cs,⟨vq,hcs,-⟩,hr2⟩:=HS0.out.2.at hy
              subst hcs
              have y0:wb.cell? ⟨g,o+(i-1)*5,none⟩=some (I y.id):=cell_G (by have:=rangeAt_G hr2 hg 0 _ rfl;simpa using this) hga
              have e1:wrap64 ((i:Int)-1)=((i-1:Nat):Int):=by unfold wrap64;omega
              have e2:IntKind.i64.wrap ((i:Int)-1)=((i-1:Nat):Int):=(Go.PlainAid.i64_is _).trans e1
              have jI:((i-1:Nat):Int)<(tn:Int):=by omega
              have n0:decide (0<i)=true:=by simp;omega
              have n1:decide ((0:Int)<(i:Int))=true:=by simp;omega
              have HPV:Hid (prevI (es.map fun y=>y.id) i=y.id):=by
                obtain⟨j,rfl⟩:∃j,i=j+1:=⟨i-1,by omega⟩
                show(es.map fun y=>y.id).getD j 0=_
                rw[List.getD_eq_getElem?_getD,List.getElem?_map,show es[j]?=some y from hy];rfl
              clear hik hpr hl hil hx q2 hr1 hr2 hvp hpn hwb hB5 hga hxm hpo hg hi0 ha hy
              generalize i-1=j at *
              by_cases hc:x.id≤y.id
              · have hk:decide (x.id≤y.id)=true:=decide_eq_true hc
                have HF:Hid (bb=false):=HBB.out (by
                  rw[hfr,fromB_step HX.out,decide_eq_true (show(fun y:Ed=>y.id) x≤_ from by rw[HPV.out];exact hc)]
                  rfl)
                clear hc hfr
                have HS:Hid (∀V,G wb V→(∀o,V.cell? ⟨B5,o,none⟩=([I x.id,.string x.ty,I x.fr,I x.to,.slice pa pn pc]:List Value)[o]?)∧(∀o9,V.cell? ⟨B1,o9,none⟩=([.slice sa sn sc,.slice (some ⟨g,o,none⟩) tn tc]:List Value)[o9]?)∧V.cell? ⟨g,o+j*5,none⟩=some (I y.id)∧G wb V):=fun V h=>⟨(HB5.out.G h).cell,(HB1W.out.G h).cell,cell_G y0 h,h⟩
                go_wp2_with fail
                rw[HEB.out]
                try rw[HE5.out]
                refine wp_region_noPanic ?_
                refine wp_region_held_drew (S:=(fun V=>(∀o,V.cell? ⟨B5,o,none⟩=([I x.id,.string x.ty,I x.fr,I x.to,.slice pa pn pc]:List Value)[o]?)∧(∀o9,V.cell? ⟨B1,o9,none⟩=([.slice sa sn sc,.slice (some ⟨g,o,none⟩) tn tc]:List Value)[o9]?)∧V.cell? ⟨g,o+j*5,none⟩=some (I y.id)∧G wb V)) (by kernel_rfl) (HS.out _ ((G.refl _).drew)) (fun hHeld=>?_)
                refine wpAnyH_take (i:=0) (v:=?_) rfl (by kernel_rfl) (by kernel_rfl) (by kernel_rfl) (fun _ _ _ h=>h) (Or.inl ⟨by rfl,?_⟩) hHeld ?_
                rotate_left 1
                · (intro w hSw;obtain⟨q1,q2,q3,-⟩:=hSw;go_simp;try with_reducible rfl)
                try simp only[Act.put,zzA,zzB,zzD,zzE,zzF]
                refine wpAnyH_take (i:=1) (v:=?_) rfl (by kernel_rfl) (by kernel_rfl) (by kernel_rfl) (fun _ _ _ h=>h) (Or.inl ⟨by rfl,?_⟩) hHeld ?_
                rotate_left 1
                · (intro w hSw;obtain⟨q1,q2,q3,-⟩:=hSw;go_simp;try with_reducible rfl)
                try simp only[Act.put,zzA,zzB,zzC,zzD,zzE,zzF]
                refine wpAnyH_take (i:=2) (v:=(.bool false)) rfl (by kernel_rfl) (by kernel_rfl) (by kernel_rfl) (fun _ _ _ h=>h) (Or.inl ⟨by rfl,?_⟩) hHeld ?_
                · (intro w hSw;first|(go_simp;done)|(go_simp;exact a1)|(go_simp;simp[a1]))
                try simp only[Act.put,zzA,zzB,zzC,zzD,zzE,zzF]
                refine wpAnyH_take (i:=3) (v:=?_) rfl (by kernel_rfl) (by kernel_rfl) (by kernel_rfl) (fun _ _ _ h=>h) (Or.inl ⟨by rfl,?_⟩) hHeld ?_
                rotate_left 1
                · (intro w hSw;(try dsimp only at hSw);go_simp;try with_reducible rfl)
                try simp only[Act.put,zzA,zzB,zzC,zzD,zzE,zzF]
                refine wpAnyH_take (i:=4) (v:=?_) rfl (by kernel_rfl) (by kernel_rfl) (by kernel_rfl) (fun _ _ _ h=>h) (Or.inl ⟨by rfl,?_⟩) hHeld ?_
                rotate_left 1
                · (intro w hSw;(try dsimp only at hSw);go_simp;try with_reducible rfl)
                try simp only[Act.put,zzA,zzB,zzC,zzD,zzE,zzF]
                refine wpAnyH_take (i:=5) (v:=(.bool true)) rfl (by kernel_rfl) (by kernel_rfl) (by kernel_rfl) (fun _ _ _ h=>h) (Or.inl ⟨by rfl,?_⟩) hHeld ?_
                · (intro w hSw;first|(go_simp;done)|(go_simp;exact n1)|(go_simp;exact n0)|(go_simp;simp[n1,n0]))
                try simp only[Act.put,zzA,zzB,zzC,zzD,zzE,zzF]
                refine wpAnyH_take (i:=6) (v:=?_) rfl (by kernel_rfl) (by kernel_rfl) (by kernel_rfl) (fun _ _ _ h=>h) (Or.inl ⟨by rfl,?_⟩) hHeld ?_
                rotate_left 1
                · (intro w hSw;(try dsimp only at hSw);go_simp;try with_reducible rfl)
                try simp only[Act.put,zzA,zzB,zzC,zzD,zzE,zzF]
                refine wpAnyH_take (i:=7) (v:=?_) rfl (by kernel_rfl) (by kernel_rfl) (by kernel_rfl) (fun _ _ _ h=>h) (Or.inl ⟨by rfl,?_⟩) hHeld ?_
                rotate_left 1
                · (intro w hSw;(try dsimp only at hSw);go_simp;try with_reducible rfl)
                try simp only[Act.put,zzA,zzB,zzC,zzD,zzE,zzF]
                refine wpAnyH_take (i:=8) (v:=?_) rfl (by kernel_rfl) (by kernel_rfl) (by kernel_rfl) (fun _ _ _ h=>h) (Or.inl ⟨by rfl,?_⟩) hHeld ?_
                rotate_left 1
                · (intro w hSw;obtain⟨q1,q2,q3,-⟩:=hSw;go_simp;try with_reducible rfl)
                try simp only[Act.put,zzA,zzB,zzC,zzD,zzE,zzF]
                refine wpAnyH_take (i:=9) (v:=?_) rfl (by kernel_rfl) (by kernel_rfl) (by kernel_rfl) (fun _ _ _ h=>h) (Or.inl ⟨by rfl,?_⟩) hHeld ?_
                rotate_left 1
                · (intro w hSw;(try dsimp only at hSw);go_simp;try with_reducible rfl)
                try simp only[Act.put,zzA,zzB,zzC,zzD,zzE,zzF]
                refine wpAnyH_take (i:=10) (v:=?_) rfl (by kernel_rfl) (by kernel_rfl) (by kernel_rfl) (fun _ _ _ h=>h) (Or.inl ⟨by rfl,?_⟩) hHeld ?_
                rotate_left 1
                · (intro w hSw;(try dsimp only at hSw);go_simp;try with_reducible rfl)
                try simp only[Act.put,zzA,zzB,zzC,zzD,zzE,zzF]
                refine wpAnyH_take (i:=11) (v:=?_) rfl (by kernel_rfl) (by kernel_rfl) (by kernel_rfl) (fun _ _ _ h=>h) (Or.inl ⟨by rfl,?_⟩) hHeld ?_
                rotate_left 1
                · (intro w hSw;(try dsimp only at hSw);go_simp;try with_reducible rfl)
                try simp only[Act.put,zzA,zzB,zzC,zzD,zzE,zzF]
                refine wpAnyH_take (i:=12) (v:=?_) rfl (by kernel_rfl) (by kernel_rfl) (by kernel_rfl) (fun _ _ _ h=>h) (Or.inl ⟨by rfl,?_⟩) hHeld ?_
                rotate_left 1
                · (intro w hSw;(try dsimp only at hSw);go_simp;try with_reducible rfl)
                try simp only[Act.put,zzA,zzB,zzC,zzD,zzE,zzF]
                refine wpAnyH_take (i:=13) (v:=?_) rfl (by kernel_rfl) (by kernel_rfl) (by kernel_rfl) (fun _ _ _ h=>h) (Or.inl ⟨by rfl,?_⟩) hHeld ?_
                rotate_left 1
                · (intro w hSw;obtain⟨q1,q2,q3,-⟩:=hSw;go_simp;try with_reducible rfl)
                try simp only[Act.put,zzA,zzB,zzC,zzD,zzE,zzF]
                refine wpAnyH_take (i:=14) (v:=?_) rfl (by kernel_rfl) (by kernel_rfl) (by kernel_rfl) (fun _ _ _ h=>h) (Or.inl ⟨by rfl,?_⟩) hHeld ?_
                rotate_left 1
                · (intro w hSw;(try dsimp only at hSw);go_simp;try with_reducible rfl)
                try simp only[Act.put,zzA,zzB,zzC,zzD,zzE,zzF]
                refine wpAnyH_take (i:=15) (v:=?_) rfl (by kernel_rfl) (by kernel_rfl) (by kernel_rfl) (fun _ _ _ h=>h) (Or.inl ⟨by rfl,?_⟩) hHeld ?_
                rotate_left 1
                · (intro w hSw;obtain⟨q1,q2,q3,-⟩:=hSw;go_simp;try with_reducible rfl)
                try simp only[Act.put,zzA,zzB,zzC,zzD,zzE,zzF]
                refine wpAnyH_take (i:=16) (v:=(.bool true)) rfl (by kernel_rfl) (by kernel_rfl) (by kernel_rfl) (fun _ _ _ h=>h) (Or.inl ⟨by rfl,?_⟩) hHeld ?_
                · (intro w hSw;first|(go_simp;done)|(go_simp;exact hk)|(go_simp;simp[hk]))
                try simp only[Act.put,zzA,zzB,zzC,zzD,zzE,zzF]
                refine wpAnyH_take (i:=17) (v:=?_) rfl (by kernel_rfl) (by kernel_rfl) (by kernel_rfl) (fun _ _ _ h=>h) (Or.inl ⟨by rfl,?_⟩) hHeld ?_
                rotate_left 1
                · (intro w hSw;(try dsimp only at hSw);go_simp;try with_reducible rfl)
                try simp only[Act.put,zzA,zzB,zzC,zzD,zzE,zzF]
                refine wpAnyH_take (i:=18) (v:=?_) rfl (by kernel_rfl) (by kernel_rfl) (by kernel_rfl) (fun _ _ _ h=>h) (Or.inl ⟨by rfl,?_⟩) hHeld ?_
                rotate_left 1
                · (intro w hSw;(try dsimp only at hSw);go_simp;try with_reducible rfl)
                try simp only[Act.put,zzA,zzB,zzC,zzD,zzE,zzF]
                refine wpAnyH_take (i:=19) (v:=?_) rfl (by kernel_rfl) (by kernel_rfl) (by kernel_rfl) (fun _ _ _ h=>h) (Or.inl ⟨by rfl,?_⟩) hHeld ?_
                rotate_left 1
                · (intro w hSw;(try dsimp only at hSw);go_simp;try with_reducible rfl)
                try simp only[Act.put,zzA,zzB,zzC,zzD,zzE,zzF]
                refine wpAnyH_take (i:=20) (v:=undef) rfl (by kernel_rfl) (by kernel_rfl) (by kernel_rfl) (fun _ _ _ h=>h) (Or.inr ⟨by rfl,rfl⟩) hHeld ?_
                try simp only[Act.put,zzA,zzB,zzC,zzD,zzE,zzF]
                refine wpAnyH_take (i:=21) (v:=undef) rfl (by kernel_rfl) (by kernel_rfl) (by kernel_rfl) (fun _ _ _ h=>h) (Or.inr ⟨by rfl,rfl⟩) hHeld ?_
                try simp only[Act.put,zzA,zzB,zzC,zzD,zzE,zzF]
                refine wpAnyH_take (i:=22) (v:=undef) rfl (by kernel_rfl) (by kernel_rfl) (by kernel_rfl) (fun _ _ _ h=>h) (Or.inr ⟨by rfl,rfl⟩) hHeld ?_
                try simp only[Act.put,zzA,zzB,zzC,zzD,zzE,zzF]
                refine wpAnyH_take (i:=23) (v:=undef) rfl (by kernel_rfl) (by kernel_rfl) (by kernel_rfl) (fun _ _ _ h=>h) (Or.inr ⟨by rfl,rfl⟩) hHeld ?_
                try simp only[Act.put,zzA,zzB,zzC,zzD,zzE,zzF]
                refine wpAnyH_take (i:=24) (v:=?_) rfl (by kernel_rfl) (by kernel_rfl) (by kernel_rfl) (fun _ _ _ h=>h) (Or.inl ⟨by rfl,?_⟩) hHeld ?_
                rotate_left 1
                · (intro w hSw;(try dsimp only at hSw);go_simp;try with_reducible rfl)
                try simp only[Act.put,zzA,zzB,zzC,zzD,zzE,zzF]
                refine wpAnyH_take (i:=25) (v:=?_) rfl (by kernel_rfl) (by kernel_rfl) (by kernel_rfl) (fun _ _ _ h=>h) (Or.inl ⟨by rfl,?_⟩) hHeld ?_
                rotate_left 1
                · (intro w hSw;(try dsimp only at hSw);go_simp;try with_reducible rfl)
                try simp only[Act.put,zzA,zzB,zzC,zzD,zzE,zzF]
                refine wpAnyH_take (i:=26) (v:=undef) rfl (by kernel_rfl) (by kernel_rfl) (by kernel_rfl) (fun _ _ _ h=>h) (Or.inr ⟨by rfl,rfl⟩) hHeld ?_
                try simp only[Act.put,zzA,zzB,zzC,zzD,zzE,zzF]
                refine wpAnyH_take (i:=27) (v:=undef) rfl (by kernel_rfl) (by kernel_rfl) (by kernel_rfl) (fun _ _ _ h=>h) (Or.inr ⟨by rfl,rfl⟩) hHeld ?_
                try simp only[Act.put,zzA,zzB,zzC,zzD,zzE,zzF]
                refine wpAnyH_take (i:=28) (v:=undef) rfl (by kernel_rfl) (by kernel_rfl) (by kernel_rfl) (fun _ _ _ h=>h) (Or.inr ⟨by rfl,rfl⟩) hHeld ?_
                try simp only[Act.put,zzA,zzB,zzC,zzD,zzE,zzF]
                refine wpAnyH_take (i:=29) (v:=undef) rfl (by kernel_rfl) (by kernel_rfl) (by kernel_rfl) (fun _ _ _ h=>h) (Or.inr ⟨by rfl,rfl⟩) hHeld ?_
                try simp only[Act.put,zzA,zzB,zzC,zzD,zzE,zzF]
                refine wpAnyH_take (i:=30) (v:=?_) rfl (by kernel_rfl) (by kernel_rfl) (by kernel_rfl) (fun _ _ _ h=>h) (Or.inl ⟨by rfl,?_⟩) hHeld ?_
                rotate_left 1
                · (intro w hSw;(try dsimp only at hSw);go_simp;try with_reducible rfl)
                try simp only[Act.put,zzA,zzB,zzC,zzD,zzE,zzF]
                refine wpAnyH_take (i:=31) (v:=?_) rfl (by kernel_rfl) (by kernel_rfl) (by kernel_rfl) (fun _ _ _ h=>h) (Or.inl ⟨by rfl,?_⟩) hHeld ?_
                rotate_left 1
                · (intro w hSw;(try dsimp only at hSw);go_simp;try with_reducible rfl)
                try simp only[Act.put,zzA,zzB,zzC,zzD,zzE,zzF]
                refine wpAnyH_take (i:=32) (v:=undef) rfl (by kernel_rfl) (by kernel_rfl) (by kernel_rfl) (fun _ _ _ h=>h) (Or.inr ⟨by rfl,rfl⟩) hHeld ?_
                try simp only[Act.put,zzA,zzB,zzC,zzD,zzE,zzF]
                refine wpAnyH_take (i:=33) (v:=undef) rfl (by kernel_rfl) (by kernel_rfl) (by kernel_rfl) (fun _ _ _ h=>h) (Or.inr ⟨by rfl,rfl⟩) hHeld ?_
                try simp only[Act.put,zzA,zzB,zzC,zzD,zzE,zzF]
                refine wpAnyH_take (i:=34) (v:=undef) rfl (by kernel_rfl) (by kernel_rfl) (by kernel_rfl) (fun _ _ _ h=>h) (Or.inr ⟨by rfl,rfl⟩) hHeld ?_
                try simp only[Act.put,zzA,zzB,zzC,zzD,zzE,zzF]
                refine wpAnyH_take (i:=35) (v:=undef) rfl (by kernel_rfl) (by kernel_rfl) (by kernel_rfl) (fun _ _ _ h=>h) (Or.inr ⟨by rfl,rfl⟩) hHeld ?_
                try simp only[Act.put,zzA,zzB,zzC,zzD,zzE,zzF]
                refine wpAnyH_take (i:=36) (v:=?_) rfl (by kernel_rfl) (by kernel_rfl) (by kernel_rfl) (fun _ _ _ h=>h) (Or.inl ⟨by rfl,?_⟩) hHeld ?_
                rotate_left 1
                · (intro w hSw;(try dsimp only at hSw);go_simp;try with_reducible rfl)
                try simp only[Act.put,zzA,zzB,zzC,zzD,zzE,zzF]
                refine wpAnyH_done (by kernel_rfl) ?_ _
                refine NoPanic.normal ?_
                go_wp2_with fail
                go_ret
                exact⟨by rw[HF.out]<;>rfl,HGB.out.drew⟩
              · have hk:decide (x.id≤y.id)=false:=decide_eq_false hc
                have HNL:Hid (¬(x.id≤prevI (es.map fun y=>y.id) i)):=by rw[Hid,HPV.out];exact hc
                clear hc hfr
                have hst:=fromB_step (id:=fun y=>y.id) (ok:=(edgeOk (ns.map fun y=>y.id))) HX.out
                rw[show decide ((fun y:Ed=>y.id) x≤prevI (es.map fun y=>y.id) i)=false from decide_eq_false HNL.out] at hst
                cases hb1:nameB x.ty with
                | false=>
                  rw[hb1] at KN
                  have HF:Hid (bb=false):=HBB.out (by rw[HR.out,hst];simp[edgeOk,hb1])
                  clear hb1 hst
                  have HS:Hid (∀V,G wb V→(∀o,V.cell? ⟨B5,o,none⟩=([I x.id,.string x.ty,I x.fr,I x.to,.slice pa pn pc]:List Value)[o]?)∧(∀o9,V.cell? ⟨B1,o9,none⟩=([.slice sa sn sc,.slice (some ⟨g,o,none⟩) tn tc]:List Value)[o9]?)∧V.cell? ⟨g,o+j*5,none⟩=some (I y.id)∧G wb V):=fun V h=>⟨(HB5.out.G h).cell,(HB1W.out.G h).cell,cell_G y0 h,h⟩
                  go_wp2_with fail
                  rw[HEB.out]
                  try rw[HE5.out]
                  refine wp_region_noPanic ?_
                  refine wp_region_held_drew (S:=(fun V=>(∀o,V.cell? ⟨B5,o,none⟩=([I x.id,.string x.ty,I x.fr,I x.to,.slice pa pn pc]:List Value)[o]?)∧(∀o9,V.cell? ⟨B1,o9,none⟩=([.slice sa sn sc,.slice (some ⟨g,o,none⟩) tn tc]:List Value)[o9]?)∧V.cell? ⟨g,o+j*5,none⟩=some (I y.id)∧G wb V)) (by kernel_rfl) (HS.out _ ((G.refl _).drew)) (fun hHeld=>?_)
                  refine wpAnyH_take (i:=0) (v:=?_) rfl (by kernel_rfl) (by kernel_rfl) (by kernel_rfl) (fun _ _ _ h=>h) (Or.inl ⟨by rfl,?_⟩) hHeld ?_
                  rotate_left 1
                  · (intro w hSw;obtain⟨q1,q2,q3,-⟩:=hSw;go_simp;try with_reducible rfl)
                  try simp only[Act.put,zzA,zzB,zzD,zzE,zzF]
                  refine wpAnyH_take (i:=1) (v:=?_) rfl (by kernel_rfl) (by kernel_rfl) (by kernel_rfl) (fun _ _ _ h=>h) (Or.inl ⟨by rfl,?_⟩) hHeld ?_
                  rotate_left 1
                  · (intro w hSw;obtain⟨q1,q2,q3,-⟩:=hSw;go_simp;try with_reducible rfl)
                  try simp only[Act.put,zzA,zzB,zzC,zzD,zzE,zzF]
                  refine wpAnyH_take (i:=2) (v:=(.bool false)) rfl (by kernel_rfl) (by kernel_rfl) (by kernel_rfl) (fun _ _ _ h=>h) (Or.inl ⟨by rfl,?_⟩) hHeld ?_
                  · (intro w hSw;first|(go_simp;done)|(go_simp;exact a1)|(go_simp;simp[a1]))
                  try simp only[Act.put,zzA,zzB,zzC,zzD,zzE,zzF]
                  refine wpAnyH_take (i:=3) (v:=?_) rfl (by kernel_rfl) (by kernel_rfl) (by kernel_rfl) (fun _ _ _ h=>h) (Or.inl ⟨by rfl,?_⟩) hHeld ?_
                  rotate_left 1
                  · (intro w hSw;(try dsimp only at hSw);go_simp;try with_reducible rfl)
                  try simp only[Act.put,zzA,zzB,zzC,zzD,zzE,zzF]
                  refine wpAnyH_take (i:=4) (v:=?_) rfl (by kernel_rfl) (by kernel_rfl) (by kernel_rfl) (fun _ _ _ h=>h) (Or.inl ⟨by rfl,?_⟩) hHeld ?_
                  rotate_left 1
                  · (intro w hSw;(try dsimp only at hSw);go_simp;try with_reducible rfl)
                  try simp only[Act.put,zzA,zzB,zzC,zzD,zzE,zzF]
                  refine wpAnyH_take (i:=5) (v:=(.bool true)) rfl (by kernel_rfl) (by kernel_rfl) (by kernel_rfl) (fun _ _ _ h=>h) (Or.inl ⟨by rfl,?_⟩) hHeld ?_
                  · (intro w hSw;first|(go_simp;done)|(go_simp;exact n1)|(go_simp;exact n0)|(go_simp;simp[n1,n0]))
                  try simp only[Act.put,zzA,zzB,zzC,zzD,zzE,zzF]
                  refine wpAnyH_take (i:=6) (v:=?_) rfl (by kernel_rfl) (by kernel_rfl) (by kernel_rfl) (fun _ _ _ h=>h) (Or.inl ⟨by rfl,?_⟩) hHeld ?_
                  rotate_left 1
                  · (intro w hSw;(try dsimp only at hSw);go_simp;try with_reducible rfl)
                  try simp only[Act.put,zzA,zzB,zzC,zzD,zzE,zzF]
                  refine wpAnyH_take (i:=7) (v:=?_) rfl (by kernel_rfl) (by kernel_rfl) (by kernel_rfl) (fun _ _ _ h=>h) (Or.inl ⟨by rfl,?_⟩) hHeld ?_
                  rotate_left 1
                  · (intro w hSw;(try dsimp only at hSw);go_simp;try with_reducible rfl)
                  try simp only[Act.put,zzA,zzB,zzC,zzD,zzE,zzF]
                  refine wpAnyH_take (i:=8) (v:=?_) rfl (by kernel_rfl) (by kernel_rfl) (by kernel_rfl) (fun _ _ _ h=>h) (Or.inl ⟨by rfl,?_⟩) hHeld ?_
                  rotate_left 1
                  · (intro w hSw;obtain⟨q1,q2,q3,-⟩:=hSw;go_simp;try with_reducible rfl)
                  try simp only[Act.put,zzA,zzB,zzC,zzD,zzE,zzF]
                  refine wpAnyH_take (i:=9) (v:=?_) rfl (by kernel_rfl) (by kernel_rfl) (by kernel_rfl) (fun _ _ _ h=>h) (Or.inl ⟨by rfl,?_⟩) hHeld ?_
                  rotate_left 1
                  · (intro w hSw;(try dsimp only at hSw);go_simp;try with_reducible rfl)
                  try simp only[Act.put,zzA,zzB,zzC,zzD,zzE,zzF]
                  refine wpAnyH_take (i:=10) (v:=?_) rfl (by kernel_rfl) (by kernel_rfl) (by kernel_rfl) (fun _ _ _ h=>h) (Or.inl ⟨by rfl,?_⟩) hHeld ?_
                  rotate_left 1
                  · (intro w hSw;(try dsimp only at hSw);go_simp;try with_reducible rfl)
                  try simp only[Act.put,zzA,zzB,zzC,zzD,zzE,zzF]
                  refine wpAnyH_take (i:=11) (v:=?_) rfl (by kernel_rfl) (by kernel_rfl) (by kernel_rfl) (fun _ _ _ h=>h) (Or.inl ⟨by rfl,?_⟩) hHeld ?_
                  rotate_left 1
                  · (intro w hSw;(try dsimp only at hSw);go_simp;try with_reducible rfl)
                  try simp only[Act.put,zzA,zzB,zzC,zzD,zzE,zzF]
                  refine wpAnyH_take (i:=12) (v:=?_) rfl (by kernel_rfl) (by kernel_rfl) (by kernel_rfl) (fun _ _ _ h=>h) (Or.inl ⟨by rfl,?_⟩) hHeld ?_
                  rotate_left 1
                  · (intro w hSw;(try dsimp only at hSw);go_simp;try with_reducible rfl)
                  try simp only[Act.put,zzA,zzB,zzC,zzD,zzE,zzF]
                  refine wpAnyH_take (i:=13) (v:=?_) rfl (by kernel_rfl) (by kernel_rfl) (by kernel_rfl) (fun _ _ _ h=>h) (Or.inl ⟨by rfl,?_⟩) hHeld ?_
                  rotate_left 1
                  · (intro w hSw;obtain⟨q1,q2,q3,-⟩:=hSw;go_simp;try with_reducible rfl)
                  try simp only[Act.put,zzA,zzB,zzC,zzD,zzE,zzF]
                  refine wpAnyH_take (i:=14) (v:=?_) rfl (by kernel_rfl) (by kernel_rfl) (by kernel_rfl) (fun _ _ _ h=>h) (Or.inl ⟨by rfl,?_⟩) hHeld ?_
                  rotate_left 1
                  · (intro w hSw;(try dsimp only at hSw);go_simp;try with_reducible rfl)
                  try simp only[Act.put,zzA,zzB,zzC,zzD,zzE,zzF]
                  refine wpAnyH_take (i:=15) (v:=?_) rfl (by kernel_rfl) (by kernel_rfl) (by kernel_rfl) (fun _ _ _ h=>h) (Or.inl ⟨by rfl,?_⟩) hHeld ?_
                  rotate_left 1
                  · (intro w hSw;obtain⟨q1,q2,q3,-⟩:=hSw;go_simp;try with_reducible rfl)
                  try simp only[Act.put,zzA,zzB,zzC,zzD,zzE,zzF]
                  refine wpAnyH_take (i:=16) (v:=(.bool false)) rfl (by kernel_rfl) (by kernel_rfl) (by kernel_rfl) (fun _ _ _ h=>h) (Or.inl ⟨by rfl,?_⟩) hHeld ?_
                  · (intro w hSw;first|(go_simp;done)|(go_simp;exact hk)|(go_simp;simp[hk]))
                  try simp only[Act.put,zzA,zzB,zzC,zzD,zzE,zzF]
                  refine wpAnyH_take (i:=17) (v:=?_) rfl (by kernel_rfl) (by kernel_rfl) (by kernel_rfl) (fun _ _ _ h=>h) (Or.inl ⟨by rfl,?_⟩) hHeld ?_
                  rotate_left 1
                  · (intro w hSw;(try dsimp only at hSw);go_simp;try with_reducible rfl)
                  try simp only[Act.put,zzA,zzB,zzC,zzD,zzE,zzF]
                  refine wpAnyH_take (i:=18) (v:=?_) rfl (by kernel_rfl) (by kernel_rfl) (by kernel_rfl) (fun _ _ _ h=>h) (Or.inl ⟨by rfl,?_⟩) hHeld ?_
                  rotate_left 1
                  · (intro w hSw;(try dsimp only at hSw);go_simp;try with_reducible rfl)
                  try simp only[Act.put,zzA,zzB,zzC,zzD,zzE,zzF]
                  refine wpAnyH_take (i:=19) (v:=?_) rfl (by kernel_rfl) (by kernel_rfl) (by kernel_rfl) (fun _ _ _ h=>h) (Or.inl ⟨by rfl,?_⟩) hHeld ?_
                  rotate_left 1
                  · (intro w hSw;(try dsimp only at hSw);go_simp;try with_reducible rfl)
                  try simp only[Act.put,zzA,zzB,zzC,zzD,zzE,zzF]
                  refine wpAnyH_take (i:=20) (v:=?_) rfl (by kernel_rfl) (by kernel_rfl) (by kernel_rfl) (fun _ _ _ h=>h) (Or.inl ⟨by rfl,?_⟩) hHeld ?_
                  rotate_left 1
                  · (intro w hSw;(try dsimp only at hSw);go_simp;try with_reducible rfl)
                  try simp only[Act.put,zzA,zzB,zzC,zzD,zzE,zzF]
                  refine wpAnyH_take (i:=21) (v:=?_) rfl (by kernel_rfl) (by kernel_rfl) (by kernel_rfl) (fun _ _ _ h=>h) (Or.inl ⟨by rfl,?_⟩) hHeld ?_
                  rotate_left 1
                  · (intro w hSw;obtain⟨q1,q2,q3,-⟩:=hSw;go_simp;try with_reducible rfl)
                  try simp only[Act.put,zzA,zzB,zzC,zzD,zzE,zzF]
                  refine wpAnyH_ready (rs:=[22]) (by kernel_rfl) (by simp) (AllReadyH.cons rfl (fun K hK=>?_) AllReadyH.nil)
                  clear hHeld
                  (try refine(if_pos rfl).mpr ?_)
                  go_simp
                  refine(KN.out _ ((G.refl wb).drew)).mono ?_
                  rintro e w5 ⟨rfl,g5'⟩
                  have g5:G wb w5:=((G.refl wb).drew).trans g5'
                  clear g5'
                  go_wp2_with fail
                  refine hK.out _ _ (HS.out w5 g5) (fun hHeld=>?_)
                  clear hK K
                  try simp only[Act.put,zzA,zzB,zzC,zzD,zzE,zzF]
                  refine wpAnyH_take (i:=23) (v:=?_) rfl (by kernel_rfl) (by kernel_rfl) (by kernel_rfl) (fun _ _ _ h=>h) (Or.inl ⟨by rfl,?_⟩) hHeld ?_
                  rotate_left 1
                  · (intro w hSw;(try dsimp only at hSw);go_simp;try with_reducible rfl)
                  try simp only[Act.put,zzA,zzB,zzC,zzD,zzE,zzF]
                  refine wpAnyH_take (i:=24) (v:=?_) rfl (by kernel_rfl) (by kernel_rfl) (by kernel_rfl) (fun _ _ _ h=>h) (Or.inl ⟨by rfl,?_⟩) hHeld ?_
                  rotate_left 1
                  · (intro w hSw;(try dsimp only at hSw);go_simp;try with_reducible rfl)
                  try simp only[Act.put,zzA,zzB,zzC,zzD,zzE,zzF]
                  refine wpAnyH_take (i:=25) (v:=?_) rfl (by kernel_rfl) (by kernel_rfl) (by kernel_rfl) (fun _ _ _ h=>h) (Or.inl ⟨by rfl,?_⟩) hHeld ?_
                  rotate_left 1
                  · (intro w hSw;(try dsimp only at hSw);go_simp;try with_reducible rfl)
                  try simp only[Act.put,zzA,zzB,zzC,zzD,zzE,zzF]
                  refine wpAnyH_take (i:=26) (v:=undef) rfl (by kernel_rfl) (by kernel_rfl) (by kernel_rfl) (fun _ _ _ h=>h) (Or.inr ⟨by rfl,rfl⟩) hHeld ?_
                  try simp only[Act.put,zzA,zzB,zzC,zzD,zzE,zzF]
                  refine wpAnyH_take (i:=27) (v:=undef) rfl (by kernel_rfl) (by kernel_rfl) (by kernel_rfl) (fun _ _ _ h=>h) (Or.inr ⟨by rfl,rfl⟩) hHeld ?_
                  try simp only[Act.put,zzA,zzB,zzC,zzD,zzE,zzF]
                  refine wpAnyH_take (i:=28) (v:=undef) rfl (by kernel_rfl) (by kernel_rfl) (by kernel_rfl) (fun _ _ _ h=>h) (Or.inr ⟨by rfl,rfl⟩) hHeld ?_
                  try simp only[Act.put,zzA,zzB,zzC,zzD,zzE,zzF]
                  refine wpAnyH_take (i:=29) (v:=undef) rfl (by kernel_rfl) (by kernel_rfl) (by kernel_rfl) (fun _ _ _ h=>h) (Or.inr ⟨by rfl,rfl⟩) hHeld ?_
                  try simp only[Act.put,zzA,zzB,zzC,zzD,zzE,zzF]
                  refine wpAnyH_take (i:=30) (v:=?_) rfl (by kernel_rfl) (by kernel_rfl) (by kernel_rfl) (fun _ _ _ h=>h) (Or.inl ⟨by rfl,?_⟩) hHeld ?_
                  rotate_left 1
                  · (intro w hSw;(try dsimp only at hSw);go_simp;try with_reducible rfl)
                  try simp only[Act.put,zzA,zzB,zzC,zzD,zzE,zzF]
                  refine wpAnyH_take (i:=31) (v:=?_) rfl (by kernel_rfl) (by kernel_rfl) (by kernel_rfl) (fun _ _ _ h=>h) (Or.inl ⟨by rfl,?_⟩) hHeld ?_
                  rotate_left 1
                  · (intro w hSw;(try dsimp only at hSw);go_simp;try with_reducible rfl)
                  try simp only[Act.put,zzA,zzB,zzC,zzD,zzE,zzF]
                  refine wpAnyH_take (i:=32) (v:=undef) rfl (by kernel_rfl) (by kernel_rfl) (by kernel_rfl) (fun _ _ _ h=>h) (Or.inr ⟨by rfl,rfl⟩) hHeld ?_
                  try simp only[Act.put,zzA,zzB,zzC,zzD,zzE,zzF]
                  refine wpAnyH_take (i:=33) (v:=undef) rfl (by kernel_rfl) (by kernel_rfl) (by kernel_rfl) (fun _ _ _ h=>h) (Or.inr ⟨by rfl,rfl⟩) hHeld ?_
                  try simp only[Act.put,zzA,zzB,zzC,zzD,zzE,zzF]
                  refine wpAnyH_take (i:=34) (v:=undef) rfl (by kernel_rfl) (by kernel_rfl) (by kernel_rfl) (fun _ _ _ h=>h) (Or.inr ⟨by rfl,rfl⟩) hHeld ?_
                  try simp only[Act.put,zzA,zzB,zzC,zzD,zzE,zzF]
                  refine wpAnyH_take (i:=35) (v:=undef) rfl (by kernel_rfl) (by kernel_rfl) (by kernel_rfl) (fun _ _ _ h=>h) (Or.inr ⟨by rfl,rfl⟩) hHeld ?_
                  try simp only[Act.put,zzA,zzB,zzC,zzD,zzE,zzF]
                  refine wpAnyH_take (i:=36) (v:=?_) rfl (by kernel_rfl) (by kernel_rfl) (by kernel_rfl) (fun _ _ _ h=>h) (Or.inl ⟨by rfl,?_⟩) hHeld ?_
                  rotate_left 1
                  · (intro w hSw;(try dsimp only at hSw);go_simp;try with_reducible rfl)
                  try simp only[Act.put,zzA,zzB,zzC,zzD,zzE,zzF]
                  refine wpAnyH_done (by kernel_rfl) ?_ _
                  refine NoPanic.normal ?_
                  go_wp2_with fail
                  go_ret
                  exact⟨by rw[HF.out]<;>rfl,HGB.out.trans g5⟩
                | true=>
                  rw[hb1] at KN
                  cases hb2:(x.ps.all fun p=>nameB p.key)with
                  | false=>
                    rw[hb2] at K2
                    have HF:Hid (bb=false):=HBB.out (by rw[HR.out,hst];simp only[edgeOk,propsOk,hb2,Bool.false_and,Bool.and_false])
                    clear hb1 hb2 hst
                    have HS:Hid (∀V,G wb V→(∀o,V.cell? ⟨B5,o,none⟩=([I x.id,.string x.ty,I x.fr,I x.to,.slice pa pn pc]:List Value)[o]?)∧(∀o9,V.cell? ⟨B1,o9,none⟩=([.slice sa sn sc,.slice (some ⟨g,o,none⟩) tn tc]:List Value)[o9]?)∧V.cell? ⟨g,o+j*5,none⟩=some (I y.id)∧G wb V):=fun V h=>⟨(HB5.out.G h).cell,(HB1W.out.G h).cell,cell_G y0 h,h⟩
                    go_wp2_with fail
                    rw[HEB.out]
                    try rw[HE5.out]
                    refine wp_region_noPanic ?_
                    refine wp_region_held_drew (S:=(fun V=>(∀o,V.cell? ⟨B5,o,none⟩=([I x.id,.string x.ty,I x.fr,I x.to,.slice pa pn pc]:List Value)[o]?)∧(∀o9,V.cell? ⟨B1,o9,none⟩=([.slice sa sn sc,.slice (some ⟨g,o,none⟩) tn tc]:List Value)[o9]?)∧V.cell? ⟨g,o+j*5,none⟩=some (I y.id)∧G wb V)) (by kernel_rfl) (HS.out _ ((G.refl _).drew)) (fun hHeld=>?_)
                    refine wpAnyH_take (i:=0) (v:=?_) rfl (by kernel_rfl) (by kernel_rfl) (by kernel_rfl) (fun _ _ _ h=>h) (Or.inl ⟨by rfl,?_⟩) hHeld ?_
                    rotate_left 1
                    · (intro w hSw;obtain⟨q1,q2,q3,-⟩:=hSw;go_simp;try with_reducible rfl)
                    try simp only[Act.put,zzA,zzB,zzD,zzE,zzF]
                    refine wpAnyH_take (i:=1) (v:=?_) rfl (by kernel_rfl) (by kernel_rfl) (by kernel_rfl) (fun _ _ _ h=>h) (Or.inl ⟨by rfl,?_⟩) hHeld ?_
                    rotate_left 1
                    · (intro w hSw;obtain⟨q1,q2,q3,-⟩:=hSw;go_simp;try with_reducible rfl)
                    try simp only[Act.put,zzA,zzB,zzC,zzD,zzE,zzF]
                    refine wpAnyH_take (i:=2) (v:=(.bool false)) rfl (by kernel_rfl) (by kernel_rfl) (by kernel_rfl) (fun _ _ _ h=>h) (Or.inl ⟨by rfl,?_⟩) hHeld ?_
                    · (intro w hSw;first|(go_simp;done)|(go_simp;exact a1)|(go_simp;simp[a1]))
                    try simp only[Act.put,zzA,zzB,zzC,zzD,zzE,zzF]
                    refine wpAnyH_take (i:=3) (v:=?_) rfl (by kernel_rfl) (by kernel_rfl) (by kernel_rfl) (fun _ _ _ h=>h) (Or.inl ⟨by rfl,?_⟩) hHeld ?_
                    rotate_left 1
                    · (intro w hSw;(try dsimp only at hSw);go_simp;try with_reducible rfl)
                    try simp only[Act.put,zzA,zzB,zzC,zzD,zzE,zzF]
                    refine wpAnyH_take (i:=4) (v:=?_) rfl (by kernel_rfl) (by kernel_rfl) (by kernel_rfl) (fun _ _ _ h=>h) (Or.inl ⟨by rfl,?_⟩) hHeld ?_
                    rotate_left 1
                    · (intro w hSw;(try dsimp only at hSw);go_simp;try with_reducible rfl)
                    try simp only[Act.put,zzA,zzB,zzC,zzD,zzE,zzF]
                    refine wpAnyH_take (i:=5) (v:=(.bool true)) rfl (by kernel_rfl) (by kernel_rfl) (by kernel_rfl) (fun _ _ _ h=>h) (Or.inl ⟨by rfl,?_⟩) hHeld ?_
                    · (intro w hSw;first|(go_simp;done)|(go_simp;exact n1)|(go_simp;exact n0)|(go_simp;simp[n1,n0]))
                    try simp only[Act.put,zzA,zzB,zzC,zzD,zzE,zzF]
                    refine wpAnyH_take (i:=6) (v:=?_) rfl (by kernel_rfl) (by kernel_rfl) (by kernel_rfl) (fun _ _ _ h=>h) (Or.inl ⟨by rfl,?_⟩) hHeld ?_
                    rotate_left 1
                    · (intro w hSw;(try dsimp only at hSw);go_simp;try with_reducible rfl)
                    try simp only[Act.put,zzA,zzB,zzC,zzD,zzE,zzF]
                    refine wpAnyH_take (i:=7) (v:=?_) rfl (by kernel_rfl) (by kernel_rfl) (by kernel_rfl) (fun _ _ _ h=>h) (Or.inl ⟨by rfl,?_⟩) hHeld ?_
                    rotate_left 1
                    · (intro w hSw;(try dsimp only at hSw);go_simp;try with_reducible rfl)
                    try simp only[Act.put,zzA,zzB,zzC,zzD,zzE,zzF]
                    refine wpAnyH_take (i:=8) (v:=?_) rfl (by kernel_rfl) (by kernel_rfl) (by kernel_rfl) (fun _ _ _ h=>h) (Or.inl ⟨by rfl,?_⟩) hHeld ?_
                    rotate_left 1
                    · (intro w hSw;obtain⟨q1,q2,q3,-⟩:=hSw;go_simp;try with_reducible rfl)
                    try simp only[Act.put,zzA,zzB,zzC,zzD,zzE,zzF]
                    refine wpAnyH_take (i:=9) (v:=?_) rfl (by kernel_rfl) (by kernel_rfl) (by kernel_rfl) (fun _ _ _ h=>h) (Or.inl ⟨by rfl,?_⟩) hHeld ?_
                    rotate_left 1
                    · (intro w hSw;(try dsimp only at hSw);go_simp;try with_reducible rfl)
                    try simp only[Act.put,zzA,zzB,zzC,zzD,zzE,zzF]
                    refine wpAnyH_take (i:=10) (v:=?_) rfl (by kernel_rfl) (by kernel_rfl) (by kernel_rfl) (fun _ _ _ h=>h) (Or.inl ⟨by rfl,?_⟩) hHeld ?_
                    rotate_left 1
                    · (intro w hSw;(try dsimp only at hSw);go_simp;try with_reducible rfl)
                    try simp only[Act.put,zzA,zzB,zzC,zzD,zzE,zzF]
                    refine wpAnyH_take (i:=11) (v:=?_) rfl (by kernel_rfl) (by kernel_rfl) (by kernel_rfl) (fun _ _ _ h=>h) (Or.inl ⟨by rfl,?_⟩) hHeld ?_
                    rotate_left 1
                    · (intro w hSw;(try dsimp only at hSw);go_simp;try with_reducible rfl)
                    try simp only[Act.put,zzA,zzB,zzC,zzD,zzE,zzF]
                    refine wpAnyH_take (i:=12) (v:=?_) rfl (by kernel_rfl) (by kernel_rfl) (by kernel_rfl) (fun _ _ _ h=>h) (Or.inl ⟨by rfl,?_⟩) hHeld ?_
                    rotate_left 1
                    · (intro w hSw;(try dsimp only at hSw);go_simp;try with_reducible rfl)
                    try simp only[Act.put,zzA,zzB,zzC,zzD,zzE,zzF]
                    refine wpAnyH_take (i:=13) (v:=?_) rfl (by kernel_rfl) (by kernel_rfl) (by kernel_rfl) (fun _ _ _ h=>h) (Or.inl ⟨by rfl,?_⟩) hHeld ?_
                    rotate_left 1
                    · (intro w hSw;obtain⟨q1,q2,q3,-⟩:=hSw;go_simp;try with_reducible rfl)
                    try simp only[Act.put,zzA,zzB,zzC,zzD,zzE,zzF]
                    refine wpAnyH_take (i:=14) (v:=?_) rfl (by kernel_rfl) (by kernel_rfl) (by kernel_rfl) (fun _ _ _ h=>h) (Or.inl ⟨by rfl,?_⟩) hHeld ?_
                    rotate_left 1
                    · (intro w hSw;(try dsimp only at hSw);go_simp;try with_reducible rfl)
                    try simp only[Act.put,zzA,zzB,zzC,zzD,zzE,zzF]
                    refine wpAnyH_take (i:=15) (v:=?_) rfl (by kernel_rfl) (by kernel_rfl) (by kernel_rfl) (fun _ _ _ h=>h) (Or.inl ⟨by rfl,?_⟩) hHeld ?_
                    rotate_left 1
                    · (intro w hSw;obtain⟨q1,q2,q3,-⟩:=hSw;go_simp;try with_reducible rfl)
                    try simp only[Act.put,zzA,zzB,zzC,zzD,zzE,zzF]
                    refine wpAnyH_take (i:=16) (v:=(.bool false)) rfl (by kernel_rfl) (by kernel_rfl) (by kernel_rfl) (fun _ _ _ h=>h) (Or.inl ⟨by rfl,?_⟩) hHeld ?_
                    · (intro w hSw;first|(go_simp;done)|(go_simp;exact hk)|(go_simp;simp[hk]))
                    try simp only[Act.put,zzA,zzB,zzC,zzD,zzE,zzF]
                    refine wpAnyH_take (i:=17) (v:=?_) rfl (by kernel_rfl) (by kernel_rfl) (by kernel_rfl) (fun _ _ _ h=>h) (Or.inl ⟨by rfl,?_⟩) hHeld ?_
                    rotate_left 1
                    · (intro w hSw;(try dsimp only at hSw);go_simp;try with_reducible rfl)
                    try simp only[Act.put,zzA,zzB,zzC,zzD,zzE,zzF]
                    refine wpAnyH_take (i:=18) (v:=?_) rfl (by kernel_rfl) (by kernel_rfl) (by kernel_rfl) (fun _ _ _ h=>h) (Or.inl ⟨by rfl,?_⟩) hHeld ?_
                    rotate_left 1
                    · (intro w hSw;(try dsimp only at hSw);go_simp;try with_reducible rfl)
                    try simp only[Act.put,zzA,zzB,zzC,zzD,zzE,zzF]
                    refine wpAnyH_take (i:=19) (v:=?_) rfl (by kernel_rfl) (by kernel_rfl) (by kernel_rfl) (fun _ _ _ h=>h) (Or.inl ⟨by rfl,?_⟩) hHeld ?_
                    rotate_left 1
                    · (intro w hSw;(try dsimp only at hSw);go_simp;try with_reducible rfl)
                    try simp only[Act.put,zzA,zzB,zzC,zzD,zzE,zzF]
                    refine wpAnyH_take (i:=20) (v:=?_) rfl (by kernel_rfl) (by kernel_rfl) (by kernel_rfl) (fun _ _ _ h=>h) (Or.inl ⟨by rfl,?_⟩) hHeld ?_
                    rotate_left 1
                    · (intro w hSw;(try dsimp only at hSw);go_simp;try with_reducible rfl)
                    try simp only[Act.put,zzA,zzB,zzC,zzD,zzE,zzF]
                    refine wpAnyH_take (i:=21) (v:=?_) rfl (by kernel_rfl) (by kernel_rfl) (by kernel_rfl) (fun _ _ _ h=>h) (Or.inl ⟨by rfl,?_⟩) hHeld ?_
                    rotate_left 1
                    · (intro w hSw;obtain⟨q1,q2,q3,-⟩:=hSw;go_simp;try with_reducible rfl)
                    try simp only[Act.put,zzA,zzB,zzC,zzD,zzE,zzF]
                    refine wpAnyH_ready (rs:=[22]) (by kernel_rfl) (by simp) (AllReadyH.cons rfl (fun K hK=>?_) AllReadyH.nil)
                    clear hHeld
                    (try refine(if_pos rfl).mpr ?_)
                    go_simp
                    refine(KN.out _ ((G.refl wb).drew)).mono ?_
                    rintro e w5 ⟨rfl,g5'⟩
                    have g5:G wb w5:=((G.refl wb).drew).trans g5'
                    clear g5'
                    go_wp2_with fail
                    refine hK.out _ _ (HS.out w5 g5) (fun hHeld=>?_)
                    clear hK K
                    try simp only[Act.put,zzA,zzB,zzC,zzD,zzE,zzF]
                    refine wpAnyH_take (i:=23) (v:=?_) rfl (by kernel_rfl) (by kernel_rfl) (by kernel_rfl) (fun _ _ _ h=>h) (Or.inl ⟨by rfl,?_⟩) hHeld ?_
                    rotate_left 1
                    · (intro w hSw;(try dsimp only at hSw);go_simp;try with_reducible rfl)
                    try simp only[Act.put,zzA,zzB,zzC,zzD,zzE,zzF]
                    refine wpAnyH_take (i:=24) (v:=?_) rfl (by kernel_rfl) (by kernel_rfl) (by kernel_rfl) (fun _ _ _ h=>h) (Or.inl ⟨by rfl,?_⟩) hHeld ?_
                    rotate_left 1
                    · (intro w hSw;(try dsimp only at hSw);go_simp;try with_reducible rfl)
                    try simp only[Act.put,zzA,zzB,zzC,zzD,zzE,zzF]
                    refine wpAnyH_take (i:=25) (v:=?_) rfl (by kernel_rfl) (by kernel_rfl) (by kernel_rfl) (fun _ _ _ h=>h) (Or.inl ⟨by rfl,?_⟩) hHeld ?_
                    rotate_left 1
                    · (intro w hSw;(try dsimp only at hSw);go_simp;try with_reducible rfl)
                    try simp only[Act.put,zzA,zzB,zzC,zzD,zzE,zzF]
                    refine wpAnyH_take (i:=26) (v:=?_) rfl (by kernel_rfl) (by kernel_rfl) (by kernel_rfl) (fun _ _ _ h=>h) (Or.inl ⟨by rfl,?_⟩) hHeld ?_
                    rotate_left 1
                    · (intro w hSw;(try dsimp only at hSw);go_simp;try with_reducible rfl)
                    try simp only[Act.put,zzA,zzB,zzC,zzD,zzE,zzF]
                    refine wpAnyH_take (i:=27) (v:=?_) rfl (by kernel_rfl) (by kernel_rfl) (by kernel_rfl) (fun _ _ _ h=>h) (Or.inl ⟨by rfl,?_⟩) hHeld ?_
                    rotate_left 1
                    · (intro w hSw;obtain⟨q1,q2,q3,-⟩:=hSw;go_simp;try with_reducible rfl)
                    try simp only[Act.put,zzA,zzB,zzC,zzD,zzE,zzF]
                    refine wpAnyH_ready (rs:=[28]) (by kernel_rfl) (by simp) (AllReadyH.cons rfl (fun K hK=>?_) AllReadyH.nil)
                    clear hHeld
                    (try refine(if_pos rfl).mpr ?_)
                    go_simp
                    refine(K2.out _ g5).mono ?_
                    rintro e w6 ⟨rfl,g6'⟩
                    have g6:G wb w6:=g5.trans g6'
                    clear g6'
                    go_wp2_with fail
                    refine hK.out _ _ (HS.out w6 g6) (fun hHeld=>?_)
                    clear hK K
                    try simp only[Act.put,zzA,zzB,zzC,zzD,zzE,zzF]
                    refine wpAnyH_take (i:=29) (v:=?_) rfl (by kernel_rfl) (by kernel_rfl) (by kernel_rfl) (fun _ _ _ h=>h) (Or.inl ⟨by rfl,?_⟩) hHeld ?_
                    rotate_left 1
                    · (intro w hSw;(try dsimp only at hSw);go_simp;try with_reducible rfl)
                    try simp only[Act.put,zzA,zzB,zzC,zzD,zzE,zzF]
                    refine wpAnyH_take (i:=30) (v:=?_) rfl (by kernel_rfl) (by kernel_rfl) (by kernel_rfl) (fun _ _ _ h=>h) (Or.inl ⟨by rfl,?_⟩) hHeld ?_
                    rotate_left 1
                    · (intro w hSw;(try dsimp only at hSw);go_simp;try with_reducible rfl)
                    try simp only[Act.put,zzA,zzB,zzC,zzD,zzE,zzF]
                    refine wpAnyH_take (i:=31) (v:=?_) rfl (by kernel_rfl) (by kernel_rfl) (by kernel_rfl) (fun _ _ _ h=>h) (Or.inl ⟨by rfl,?_⟩) hHeld ?_
                    rotate_left 1
                    · (intro w hSw;(try dsimp only at hSw);go_simp;try with_reducible rfl)
                    try simp only[Act.put,zzA,zzB,zzC,zzD,zzE,zzF]
                    refine wpAnyH_take (i:=32) (v:=undef) rfl (by kernel_rfl) (by kernel_rfl) (by kernel_rfl) (fun _ _ _ h=>h) (Or.inr ⟨by rfl,rfl⟩) hHeld ?_
                    try simp only[Act.put,zzA,zzB,zzC,zzD,zzE,zzF]
                    refine wpAnyH_take (i:=33) (v:=undef) rfl (by kernel_rfl) (by kernel_rfl) (by kernel_rfl) (fun _ _ _ h=>h) (Or.inr ⟨by rfl,rfl⟩) hHeld ?_
                    try simp only[Act.put,zzA,zzB,zzC,zzD,zzE,zzF]
                    refine wpAnyH_take (i:=34) (v:=undef) rfl (by kernel_rfl) (by kernel_rfl) (by kernel_rfl) (fun _ _ _ h=>h) (Or.inr ⟨by rfl,rfl⟩) hHeld ?_
                    try simp only[Act.put,zzA,zzB,zzC,zzD,zzE,zzF]
                    refine wpAnyH_take (i:=35) (v:=undef) rfl (by kernel_rfl) (by kernel_rfl) (by kernel_rfl) (fun _ _ _ h=>h) (Or.inr ⟨by rfl,rfl⟩) hHeld ?_
                    try simp only[Act.put,zzA,zzB,zzC,zzD,zzE,zzF]
                    refine wpAnyH_take (i:=36) (v:=?_) rfl (by kernel_rfl) (by kernel_rfl) (by kernel_rfl) (fun _ _ _ h=>h) (Or.inl ⟨by rfl,?_⟩) hHeld ?_
                    rotate_left 1
                    · (intro w hSw;(try dsimp only at hSw);go_simp;try with_reducible rfl)
                    try simp only[Act.put,zzA,zzB,zzC,zzD,zzE,zzF]
                    refine wpAnyH_done (by kernel_rfl) ?_ _
                    refine NoPanic.normal ?_
                    go_wp2_with fail
                    go_ret
                    exact⟨by rw[HF.out]<;>rfl,HGB.out.trans g6⟩
                  | true=>
                    rw[hb2] at K2
                    cases hb3:goodB x.ps with
                    | false=>
                      rw[hb3] at K3
                      have HF:Hid (bb=false):=HBB.out (by rw[HR.out,hst];simp only[edgeOk,propsOk,hb3,Bool.false_and,Bool.and_false])
                      clear hb1 hb2 hb3 hst
                      have HS:Hid (∀V,G wb V→(∀o,V.cell? ⟨B5,o,none⟩=([I x.id,.string x.ty,I x.fr,I x.to,.slice pa pn pc]:List Value)[o]?)∧(∀o9,V.cell? ⟨B1,o9,none⟩=([.slice sa sn sc,.slice (some ⟨g,o,none⟩) tn tc]:List Value)[o9]?)∧V.cell? ⟨g,o+j*5,none⟩=some (I y.id)∧G wb V):=fun V h=>⟨(HB5.out.G h).cell,(HB1W.out.G h).cell,cell_G y0 h,h⟩
                      go_wp2_with fail
                      rw[HEB.out]
                      try rw[HE5.out]
                      refine wp_region_noPanic ?_
                      refine wp_region_held_drew (S:=(fun V=>(∀o,V.cell? ⟨B5,o,none⟩=([I x.id,.string x.ty,I x.fr,I x.to,.slice pa pn pc]:List Value)[o]?)∧(∀o9,V.cell? ⟨B1,o9,none⟩=([.slice sa sn sc,.slice (some ⟨g,o,none⟩) tn tc]:List Value)[o9]?)∧V.cell? ⟨g,o+j*5,none⟩=some (I y.id)∧G wb V)) (by kernel_rfl) (HS.out _ ((G.refl _).drew)) (fun hHeld=>?_)
                      refine wpAnyH_take (i:=0) (v:=?_) rfl (by kernel_rfl) (by kernel_rfl) (by kernel_rfl) (fun _ _ _ h=>h) (Or.inl ⟨by rfl,?_⟩) hHeld ?_
                      rotate_left 1
                      · (intro w hSw;obtain⟨q1,q2,q3,-⟩:=hSw;go_simp;try with_reducible rfl)
                      try simp only[Act.put,zzA,zzB,zzD,zzE,zzF]
                      refine wpAnyH_take (i:=1) (v:=?_) rfl (by kernel_rfl) (by kernel_rfl) (by kernel_rfl) (fun _ _ _ h=>h) (Or.inl ⟨by rfl,?_⟩) hHeld ?_
                      rotate_left 1
                      · (intro w hSw;obtain⟨q1,q2,q3,-⟩:=hSw;go_simp;try with_reducible rfl)
                      try simp only[Act.put,zzA,zzB,zzC,zzD,zzE,zzF]
                      refine wpAnyH_take (i:=2) (v:=(.bool false)) rfl (by kernel_rfl) (by kernel_rfl) (by kernel_rfl) (fun _ _ _ h=>h) (Or.inl ⟨by rfl,?_⟩) hHeld ?_
                      · (intro w hSw;first|(go_simp;done)|(go_simp;exact a1)|(go_simp;simp[a1]))
                      try simp only[Act.put,zzA,zzB,zzC,zzD,zzE,zzF]
                      refine wpAnyH_take (i:=3) (v:=?_) rfl (by kernel_rfl) (by kernel_rfl) (by kernel_rfl) (fun _ _ _ h=>h) (Or.inl ⟨by rfl,?_⟩) hHeld ?_
                      rotate_left 1
                      · (intro w hSw;(try dsimp only at hSw);go_simp;try with_reducible rfl)
                      try simp only[Act.put,zzA,zzB,zzC,zzD,zzE,zzF]
                      refine wpAnyH_take (i:=4) (v:=?_) rfl (by kernel_rfl) (by kernel_rfl) (by kernel_rfl) (fun _ _ _ h=>h) (Or.inl ⟨by rfl,?_⟩) hHeld ?_
                      rotate_left 1
                      · (intro w hSw;(try dsimp only at hSw);go_simp;try with_reducible rfl)
                      try simp only[Act.put,zzA,zzB,zzC,zzD,zzE,zzF]
                      refine wpAnyH_take (i:=5) (v:=(.bool true)) rfl (by kernel_rfl) (by kernel_rfl) (by kernel_rfl) (fun _ _ _ h=>h) (Or.inl ⟨by rfl,?_⟩) hHeld ?_
                      · (intro w hSw;first|(go_simp;done)|(go_simp;exact n1)|(go_simp;exact n0)|(go_simp;simp[n1,n0]))
                      try simp only[Act.put,zzA,zzB,zzC,zzD,zzE,zzF]
                      refine wpAnyH_take (i:=6) (v:=?_) rfl (by kernel_rfl) (by kernel_rfl) (by kernel_rfl) (fun _ _ _ h=>h) (Or.inl ⟨by rfl,?_⟩) hHeld ?_
                      rotate_left 1
                      · (intro w hSw;(try dsimp only at hSw);go_simp;try with_reducible rfl)
                      try simp only[Act.put,zzA,zzB,zzC,zzD,zzE,zzF]
                      refine wpAnyH_take (i:=7) (v:=?_) rfl (by kernel_rfl) (by kernel_rfl) (by kernel_rfl) (fun _ _ _ h=>h) (Or.inl ⟨by rfl,?_⟩) hHeld ?_
                      rotate_left 1
                      · (intro w hSw;(try dsimp only at hSw);go_simp;try with_reducible rfl)
                      try simp only[Act.put,zzA,zzB,zzC,zzD,zzE,zzF]
                      refine wpAnyH_take (i:=8) (v:=?_) rfl (by kernel_rfl) (by kernel_rfl) (by kernel_rfl) (fun _ _ _ h=>h) (Or.inl ⟨by rfl,?_⟩) hHeld ?_
                      rotate_left 1
                      · (intro w hSw;obtain⟨q1,q2,q3,-⟩:=hSw;go_simp;try with_reducible rfl)
                      try simp only[Act.put,zzA,zzB,zzC,zzD,zzE,zzF]
                      refine wpAnyH_take (i:=9) (v:=?_) rfl (by kernel_rfl) (by kernel_rfl) (by kernel_rfl) (fun _ _ _ h=>h) (Or.inl ⟨by rfl,?_⟩) hHeld ?_
                      rotate_left 1
                      · (intro w hSw;(try dsimp only at hSw);go_simp;try with_reducible rfl)
                      try simp only[Act.put,zzA,zzB,zzC,zzD,zzE,zzF]
                      refine wpAnyH_take (i:=10) (v:=?_) rfl (by kernel_rfl) (by kernel_rfl) (by kernel_rfl) (fun _ _ _ h=>h) (Or.inl ⟨by rfl,?_⟩) hHeld ?_
                      rotate_left 1
                      · (intro w hSw;(try dsimp only at hSw);go_simp;try with_reducible rfl)
                      try simp only[Act.put,zzA,zzB,zzC,zzD,zzE,zzF]
                      refine wpAnyH_take (i:=11) (v:=?_) rfl (by kernel_rfl) (by kernel_rfl) (by kernel_rfl) (fun _ _ _ h=>h) (Or.inl ⟨by rfl,?_⟩) hHeld ?_
                      rotate_left 1
                      · (intro w hSw;(try dsimp only at hSw);go_simp;try with_reducible rfl)
                      try simp only[Act.put,zzA,zzB,zzC,zzD,zzE,zzF]
                      refine wpAnyH_take (i:=12) (v:=?_) rfl (by kernel_rfl) (by kernel_rfl) (by kernel_rfl) (fun _ _ _ h=>h) (Or.inl ⟨by rfl,?_⟩) hHeld ?_
                      rotate_left 1
                      · (intro w hSw;(try dsimp only at hSw);go_simp;try with_reducible rfl)
                      try simp only[Act.put,zzA,zzB,zzC,zzD,zzE,zzF]
                      refine wpAnyH_take (i:=13) (v:=?_) rfl (by kernel_rfl) (by kernel_rfl) (by kernel_rfl) (fun _ _ _ h=>h) (Or.inl ⟨by rfl,?_⟩) hHeld ?_
                      rotate_left 1
                      · (intro w hSw;obtain⟨q1,q2,q3,-⟩:=hSw;go_simp;try with_reducible rfl)
                      try simp only[Act.put,zzA,zzB,zzC,zzD,zzE,zzF]
                      refine wpAnyH_take (i:=14) (v:=?_) rfl (by kernel_rfl) (by kernel_rfl) (by kernel_rfl) (fun _ _ _ h=>h) (Or.inl ⟨by rfl,?_⟩) hHeld ?_
                      rotate_left 1
                      · (intro w hSw;(try dsimp only at hSw);go_simp;try with_reducible rfl)
                      try simp only[Act.put,zzA,zzB,zzC,zzD,zzE,zzF]
                      refine wpAnyH_take (i:=15) (v:=?_) rfl (by kernel_rfl) (by kernel_rfl) (by kernel_rfl) (fun _ _ _ h=>h) (Or.inl ⟨by rfl,?_⟩) hHeld ?_
                      rotate_left 1
                      · (intro w hSw;obtain⟨q1,q2,q3,-⟩:=hSw;go_simp;try with_reducible rfl)
                      try simp only[Act.put,zzA,zzB,zzC,zzD,zzE,zzF]
                      refine wpAnyH_take (i:=16) (v:=(.bool false)) rfl (by kernel_rfl) (by kernel_rfl) (by kernel_rfl) (fun _ _ _ h=>h) (Or.inl ⟨by rfl,?_⟩) hHeld ?_
                      · (intro w hSw;first|(go_simp;done)|(go_simp;exact hk)|(go_simp;simp[hk]))
                      try simp only[Act.put,zzA,zzB,zzC,zzD,zzE,zzF]
                      refine wpAnyH_take (i:=17) (v:=?_) rfl (by kernel_rfl) (by kernel_rfl) (by kernel_rfl) (fun _ _ _ h=>h) (Or.inl ⟨by rfl,?_⟩) hHeld ?_
                      rotate_left 1
                      · (intro w hSw;(try dsimp only at hSw);go_simp;try with_reducible rfl)
                      try simp only[Act.put,zzA,zzB,zzC,zzD,zzE,zzF]
                      refine wpAnyH_take (i:=18) (v:=?_) rfl (by kernel_rfl) (by kernel_rfl) (by kernel_rfl) (fun _ _ _ h=>h) (Or.inl ⟨by rfl,?_⟩) hHeld ?_
                      rotate_left 1
                      · (intro w hSw;(try dsimp only at hSw);go_simp;try with_reducible rfl)
                      try simp only[Act.put,zzA,zzB,zzC,zzD,zzE,zzF]
                      refine wpAnyH_take (i:=19) (v:=?_) rfl (by kernel_rfl) (by kernel_rfl) (by kernel_rfl) (fun _ _ _ h=>h) (Or.inl ⟨by rfl,?_⟩) hHeld ?_
                      rotate_left 1
                      · (intro w hSw;(try dsimp only at hSw);go_simp;try with_reducible rfl)
                      try simp only[Act.put,zzA,zzB,zzC,zzD,zzE,zzF]
                      refine wpAnyH_take (i:=20) (v:=?_) rfl (by kernel_rfl) (by kernel_rfl) (by kernel_rfl) (fun _ _ _ h=>h) (Or.inl ⟨by rfl,?_⟩) hHeld ?_
                      rotate_left 1
                      · (intro w hSw;(try dsimp only at hSw);go_simp;try with_reducible rfl)
                      try simp only[Act.put,zzA,zzB,zzC,zzD,zzE,zzF]
                      refine wpAnyH_take (i:=21) (v:=?_) rfl (by kernel_rfl) (by kernel_rfl) (by kernel_rfl) (fun _ _ _ h=>h) (Or.inl ⟨by rfl,?_⟩) hHeld ?_
                      rotate_left 1
                      · (intro w hSw;obtain⟨q1,q2,q3,-⟩:=hSw;go_simp;try with_reducible rfl)
                      try simp only[Act.put,zzA,zzB,zzC,zzD,zzE,zzF]
                      refine wpAnyH_ready (rs:=[22]) (by kernel_rfl) (by simp) (AllReadyH.cons rfl (fun K hK=>?_) AllReadyH.nil)
                      clear hHeld
                      (try refine(if_pos rfl).mpr ?_)
                      go_simp
                      refine(KN.out _ ((G.refl wb).drew)).mono ?_
                      rintro e w5 ⟨rfl,g5'⟩
                      have g5:G wb w5:=((G.refl wb).drew).trans g5'
                      clear g5'
                      go_wp2_with fail
                      refine hK.out _ _ (HS.out w5 g5) (fun hHeld=>?_)
                      clear hK K
                      try simp only[Act.put,zzA,zzB,zzC,zzD,zzE,zzF]
                      refine wpAnyH_take (i:=23) (v:=?_) rfl (by kernel_rfl) (by kernel_rfl) (by kernel_rfl) (fun _ _ _ h=>h) (Or.inl ⟨by rfl,?_⟩) hHeld ?_
                      rotate_left 1
                      · (intro w hSw;(try dsimp only at hSw);go_simp;try with_reducible rfl)
                      try simp only[Act.put,zzA,zzB,zzC,zzD,zzE,zzF]
                      refine wpAnyH_take (i:=24) (v:=?_) rfl (by kernel_rfl) (by kernel_rfl) (by kernel_rfl) (fun _ _ _ h=>h) (Or.inl ⟨by rfl,?_⟩) hHeld ?_
                      rotate_left 1
                      · (intro w hSw;(try dsimp only at hSw);go_simp;try with_reducible rfl)
                      try simp only[Act.put,zzA,zzB,zzC,zzD,zzE,zzF]
                      refine wpAnyH_take (i:=25) (v:=?_) rfl (by kernel_rfl) (by kernel_rfl) (by kernel_rfl) (fun _ _ _ h=>h) (Or.inl ⟨by rfl,?_⟩) hHeld ?_
                      rotate_left 1
                      · (intro w hSw;(try dsimp only at hSw);go_simp;try with_reducible rfl)
                      try simp only[Act.put,zzA,zzB,zzC,zzD,zzE,zzF]
                      refine wpAnyH_take (i:=26) (v:=?_) rfl (by kernel_rfl) (by kernel_rfl) (by kernel_rfl) (fun _ _ _ h=>h) (Or.inl ⟨by rfl,?_⟩) hHeld ?_
                      rotate_left 1
                      · (intro w hSw;(try dsimp only at hSw);go_simp;try with_reducible rfl)
                      try simp only[Act.put,zzA,zzB,zzC,zzD,zzE,zzF]
                      refine wpAnyH_take (i:=27) (v:=?_) rfl (by kernel_rfl) (by kernel_rfl) (by kernel_rfl) (fun _ _ _ h=>h) (Or.inl ⟨by rfl,?_⟩) hHeld ?_
                      rotate_left 1
                      · (intro w hSw;obtain⟨q1,q2,q3,-⟩:=hSw;go_simp;try with_reducible rfl)
                      try simp only[Act.put,zzA,zzB,zzC,zzD,zzE,zzF]
                      refine wpAnyH_ready (rs:=[28]) (by kernel_rfl) (by simp) (AllReadyH.cons rfl (fun K hK=>?_) AllReadyH.nil)
                      clear hHeld
                      (try refine(if_pos rfl).mpr ?_)
                      go_simp
                      refine(K2.out _ g5).mono ?_
                      rintro e w6 ⟨rfl,g6'⟩
                      have g6:G wb w6:=g5.trans g6'
                      clear g6'
                      go_wp2_with fail
                      refine hK.out _ _ (HS.out w6 g6) (fun hHeld=>?_)
                      clear hK K
                      try simp only[Act.put,zzA,zzB,zzC,zzD,zzE,zzF]
                      refine wpAnyH_take (i:=29) (v:=?_) rfl (by kernel_rfl) (by kernel_rfl) (by kernel_rfl) (fun _ _ _ h=>h) (Or.inl ⟨by rfl,?_⟩) hHeld ?_
                      rotate_left 1
                      · (intro w hSw;(try dsimp only at hSw);go_simp;try with_reducible rfl)
                      try simp only[Act.put,zzA,zzB,zzC,zzD,zzE,zzF]
                      refine wpAnyH_take (i:=30) (v:=?_) rfl (by kernel_rfl) (by kernel_rfl) (by kernel_rfl) (fun _ _ _ h=>h) (Or.inl ⟨by rfl,?_⟩) hHeld ?_
                      rotate_left 1
                      · (intro w hSw;(try dsimp only at hSw);go_simp;try with_reducible rfl)
                      try simp only[Act.put,zzA,zzB,zzC,zzD,zzE,zzF]
                      refine wpAnyH_take (i:=31) (v:=?_) rfl (by kernel_rfl) (by kernel_rfl) (by kernel_rfl) (fun _ _ _ h=>h) (Or.inl ⟨by rfl,?_⟩) hHeld ?_
                      rotate_left 1
                      · (intro w hSw;(try dsimp only at hSw);go_simp;try with_reducible rfl)
                      try simp only[Act.put,zzA,zzB,zzC,zzD,zzE,zzF]
                      refine wpAnyH_take (i:=32) (v:=?_) rfl (by kernel_rfl) (by kernel_rfl) (by kernel_rfl) (fun _ _ _ h=>h) (Or.inl ⟨by rfl,?_⟩) hHeld ?_
                      rotate_left 1
                      · (intro w hSw;(try dsimp only at hSw);go_simp;try with_reducible rfl)
                      try simp only[Act.put,zzA,zzB,zzC,zzD,zzE,zzF]
                      refine wpAnyH_take (i:=33) (v:=?_) rfl (by kernel_rfl) (by kernel_rfl) (by kernel_rfl) (fun _ _ _ h=>h) (Or.inl ⟨by rfl,?_⟩) hHeld ?_
                      rotate_left 1
                      · (intro w hSw;obtain⟨q1,q2,q3,-⟩:=hSw;go_simp;try with_reducible rfl)
                      try simp only[Act.put,zzA,zzB,zzC,zzD,zzE,zzF]
                      refine wpAnyH_ready (rs:=[34]) (by kernel_rfl) (by simp) (AllReadyH.cons rfl (fun K hK=>?_) AllReadyH.nil)
                      clear hHeld
                      (try refine(if_pos rfl).mpr ?_)
                      go_simp
                      refine(K3.out _ g6).mono ?_
                      rintro e w7 ⟨rfl,g7'⟩
                      have g7:G wb w7:=g6.trans g7'
                      clear g7'
                      go_wp2_with fail
                      refine hK.out _ _ (HS.out w7 g7) (fun hHeld=>?_)
                      clear hK K
                      try simp only[Act.put,zzA,zzB,zzC,zzD,zzE,zzF]
                      refine wpAnyH_take (i:=35) (v:=?_) rfl (by kernel_rfl) (by kernel_rfl) (by kernel_rfl) (fun _ _ _ h=>h) (Or.inl ⟨by rfl,?_⟩) hHeld ?_
                      rotate_left 1
                      · (intro w hSw;(try dsimp only at hSw);go_simp;try with_reducible rfl)
                      try simp only[Act.put,zzA,zzB,zzC,zzD,zzE,zzF]
                      refine wpAnyH_take (i:=36) (v:=?_) rfl (by kernel_rfl) (by kernel_rfl) (by kernel_rfl) (fun _ _ _ h=>h) (Or.inl ⟨by rfl,?_⟩) hHeld ?_
                      rotate_left 1
                      · (intro w hSw;(try dsimp only at hSw);go_simp;try with_reducible rfl)
                      try simp only[Act.put,zzA,zzB,zzC,zzD,zzE,zzF]
                      refine wpAnyH_done (by kernel_rfl) ?_ _
                      refine NoPanic.normal ?_
                      go_wp2_with fail
                      go_ret
                      exact⟨by rw[HF.out]<;>rfl,HGB.out.trans g7⟩
                    | true=>
                      rw[hb3] at K3
                      have HB2:=hide hb2;have HB3:=hide hb3
                      clear hb2 hb3
                      have HS:Hid (∀V,G wb V→(∀o,V.cell? ⟨B5,o,none⟩=([I x.id,.string x.ty,I x.fr,I x.to,.slice pa pn pc]:List Value)[o]?)∧(∀o9,V.cell? ⟨B1,o9,none⟩=([.slice sa sn sc,.slice (some ⟨g,o,none⟩) tn tc]:List Value)[o9]?)∧V.cell? ⟨g,o+j*5,none⟩=some (I y.id)∧G wb V):=fun V h=>⟨(HB5.out.G h).cell,(HB1W.out.G h).cell,cell_G y0 h,h⟩
                      go_wp2_with fail
                      rw[HEB.out]
                      try rw[HE5.out]
                      refine wp_region_noPanic ?_
                      refine wp_region_held_drew (S:=(fun V=>(∀o,V.cell? ⟨B5,o,none⟩=([I x.id,.string x.ty,I x.fr,I x.to,.slice pa pn pc]:List Value)[o]?)∧(∀o9,V.cell? ⟨B1,o9,none⟩=([.slice sa sn sc,.slice (some ⟨g,o,none⟩) tn tc]:List Value)[o9]?)∧V.cell? ⟨g,o+j*5,none⟩=some (I y.id)∧G wb V)) (by kernel_rfl) (HS.out _ ((G.refl _).drew)) (fun hHeld=>?_)
                      refine wpAnyH_take (i:=0) (v:=?_) rfl (by kernel_rfl) (by kernel_rfl) (by kernel_rfl) (fun _ _ _ h=>h) (Or.inl ⟨by rfl,?_⟩) hHeld ?_
                      rotate_left 1
                      · (intro w hSw;obtain⟨q1,q2,q3,-⟩:=hSw;go_simp;try with_reducible rfl)
                      try simp only[Act.put,zzA,zzB,zzD,zzE,zzF]
                      refine wpAnyH_take (i:=1) (v:=?_) rfl (by kernel_rfl) (by kernel_rfl) (by kernel_rfl) (fun _ _ _ h=>h) (Or.inl ⟨by rfl,?_⟩) hHeld ?_
                      rotate_left 1
                      · (intro w hSw;obtain⟨q1,q2,q3,-⟩:=hSw;go_simp;try with_reducible rfl)
                      try simp only[Act.put,zzA,zzB,zzC,zzD,zzE,zzF]
                      refine wpAnyH_take (i:=2) (v:=(.bool false)) rfl (by kernel_rfl) (by kernel_rfl) (by kernel_rfl) (fun _ _ _ h=>h) (Or.inl ⟨by rfl,?_⟩) hHeld ?_
                      · (intro w hSw;first|(go_simp;done)|(go_simp;exact a1)|(go_simp;simp[a1]))
                      try simp only[Act.put,zzA,zzB,zzC,zzD,zzE,zzF]
                      refine wpAnyH_take (i:=3) (v:=?_) rfl (by kernel_rfl) (by kernel_rfl) (by kernel_rfl) (fun _ _ _ h=>h) (Or.inl ⟨by rfl,?_⟩) hHeld ?_
                      rotate_left 1
                      · (intro w hSw;(try dsimp only at hSw);go_simp;try with_reducible rfl)
                      try simp only[Act.put,zzA,zzB,zzC,zzD,zzE,zzF]
                      refine wpAnyH_take (i:=4) (v:=?_) rfl (by kernel_rfl) (by kernel_rfl) (by kernel_rfl) (fun _ _ _ h=>h) (Or.inl ⟨by rfl,?_⟩) hHeld ?_
                      rotate_left 1
                      · (intro w hSw;(try dsimp only at hSw);go_simp;try with_reducible rfl)
                      try simp only[Act.put,zzA,zzB,zzC,zzD,zzE,zzF]
                      refine wpAnyH_take (i:=5) (v:=(.bool true)) rfl (by kernel_rfl) (by kernel_rfl) (by kernel_rfl) (fun _ _ _ h=>h) (Or.inl ⟨by rfl,?_⟩) hHeld ?_
                      · (intro w hSw;first|(go_simp;done)|(go_simp;exact n1)|(go_simp;exact n0)|(go_simp;simp[n1,n0]))
                      try simp only[Act.put,zzA,zzB,zzC,zzD,zzE,zzF]
                      refine wpAnyH_take (i:=6) (v:=?_) rfl (by kernel_rfl) (by kernel_rfl) (by kernel_rfl) (fun _ _ _ h=>h) (Or.inl ⟨by rfl,?_⟩) hHeld ?_
                      rotate_left 1
                      · (intro w hSw;(try dsimp only at hSw);go_simp;try with_reducible rfl)
                      try simp only[Act.put,zzA,zzB,zzC,zzD,zzE,zzF]
                      refine wpAnyH_take (i:=7) (v:=?_) rfl (by kernel_rfl) (by kernel_rfl) (by kernel_rfl) (fun _ _ _ h=>h) (Or.inl ⟨by rfl,?_⟩) hHeld ?_
                      rotate_left 1
                      · (intro w hSw;(try dsimp only at hSw);go_simp;try with_reducible rfl)
                      try simp only[Act.put,zzA,zzB,zzC,zzD,zzE,zzF]
                      refine wpAnyH_take (i:=8) (v:=?_) rfl (by kernel_rfl) (by kernel_rfl) (by kernel_rfl) (fun _ _ _ h=>h) (Or.inl ⟨by rfl,?_⟩) hHeld ?_
                      rotate_left 1
                      · (intro w hSw;obtain⟨q1,q2,q3,-⟩:=hSw;go_simp;try with_reducible rfl)
                      try simp only[Act.put,zzA,zzB,zzC,zzD,zzE,zzF]
                      refine wpAnyH_take (i:=9) (v:=?_) rfl (by kernel_rfl) (by kernel_rfl) (by kernel_rfl) (fun _ _ _ h=>h) (Or.inl ⟨by rfl,?_⟩) hHeld ?_
                      rotate_left 1
                      · (intro w hSw;(try dsimp only at hSw);go_simp;try with_reducible rfl)
                      try simp only[Act.put,zzA,zzB,zzC,zzD,zzE,zzF]
                      refine wpAnyH_take (i:=10) (v:=?_) rfl (by kernel_rfl) (by kernel_rfl) (by kernel_rfl) (fun _ _ _ h=>h) (Or.inl ⟨by rfl,?_⟩) hHeld ?_
                      rotate_left 1
                      · (intro w hSw;(try dsimp only at hSw);go_simp;try with_reducible rfl)
                      try simp only[Act.put,zzA,zzB,zzC,zzD,zzE,zzF]
                      refine wpAnyH_take (i:=11) (v:=?_) rfl (by kernel_rfl) (by kernel_rfl) (by kernel_rfl) (fun _ _ _ h=>h) (Or.inl ⟨by rfl,?_⟩) hHeld ?_
                      rotate_left 1
                      · (intro w hSw;(try dsimp only at hSw);go_simp;try with_reducible rfl)
                      try simp only[Act.put,zzA,zzB,zzC,zzD,zzE,zzF]
                      refine wpAnyH_take (i:=12) (v:=?_) rfl (by kernel_rfl) (by kernel_rfl) (by kernel_rfl) (fun _ _ _ h=>h) (Or.inl ⟨by rfl,?_⟩) hHeld ?_
                      rotate_left 1
                      · (intro w hSw;(try dsimp only at hSw);go_simp;try with_reducible rfl)
                      try simp only[Act.put,zzA,zzB,zzC,zzD,zzE,zzF]
                      refine wpAnyH_take (i:=13) (v:=?_) rfl (by kernel_rfl) (by kernel_rfl) (by kernel_rfl) (fun _ _ _ h=>h) (Or.inl ⟨by rfl,?_⟩) hHeld ?_
                      rotate_left 1
                      · (intro w hSw;obtain⟨q1,q2,q3,-⟩:=hSw;go_simp;try with_reducible rfl)
                      try simp only[Act.put,zzA,zzB,zzC,zzD,zzE,zzF]
                      refine wpAnyH_take (i:=14) (v:=?_) rfl (by kernel_rfl) (by kernel_rfl) (by kernel_rfl) (fun _ _ _ h=>h) (Or.inl ⟨by rfl,?_⟩) hHeld ?_
                      rotate_left 1
                      · (intro w hSw;(try dsimp only at hSw);go_simp;try with_reducible rfl)
                      try simp only[Act.put,zzA,zzB,zzC,zzD,zzE,zzF]
                      refine wpAnyH_take (i:=15) (v:=?_) rfl (by kernel_rfl) (by kernel_rfl) (by kernel_rfl) (fun _ _ _ h=>h) (Or.inl ⟨by rfl,?_⟩) hHeld ?_
                      rotate_left 1
                      · (intro w hSw;obtain⟨q1,q2,q3,-⟩:=hSw;go_simp;try with_reducible rfl)
                      try simp only[Act.put,zzA,zzB,zzC,zzD,zzE,zzF]
                      refine wpAnyH_take (i:=16) (v:=(.bool false)) rfl (by kernel_rfl) (by kernel_rfl) (by kernel_rfl) (fun _ _ _ h=>h) (Or.inl ⟨by rfl,?_⟩) hHeld ?_
                      · (intro w hSw;first|(go_simp;done)|(go_simp;exact hk)|(go_simp;simp[hk]))
                      try simp only[Act.put,zzA,zzB,zzC,zzD,zzE,zzF]
                      refine wpAnyH_take (i:=17) (v:=?_) rfl (by kernel_rfl) (by kernel_rfl) (by kernel_rfl) (fun _ _ _ h=>h) (Or.inl ⟨by rfl,?_⟩) hHeld ?_
                      rotate_left 1
                      · (intro w hSw;(try dsimp only at hSw);go_simp;try with_reducible rfl)
                      try simp only[Act.put,zzA,zzB,zzC,zzD,zzE,zzF]
                      refine wpAnyH_take (i:=18) (v:=?_) rfl (by kernel_rfl) (by kernel_rfl) (by kernel_rfl) (fun _ _ _ h=>h) (Or.inl ⟨by rfl,?_⟩) hHeld ?_
                      rotate_left 1
                      · (intro w hSw;(try dsimp only at hSw);go_simp;try with_reducible rfl)
                      try simp only[Act.put,zzA,zzB,zzC,zzD,zzE,zzF]
                      refine wpAnyH_take (i:=19) (v:=?_) rfl (by kernel_rfl) (by kernel_rfl) (by kernel_rfl) (fun _ _ _ h=>h) (Or.inl ⟨by rfl,?_⟩) hHeld ?_
                      rotate_left 1
                      · (intro w hSw;(try dsimp only at hSw);go_simp;try with_reducible rfl)
                      try simp only[Act.put,zzA,zzB,zzC,zzD,zzE,zzF]
                      refine wpAnyH_take (i:=20) (v:=?_) rfl (by kernel_rfl) (by kernel_rfl) (by kernel_rfl) (fun _ _ _ h=>h) (Or.inl ⟨by rfl,?_⟩) hHeld ?_
                      rotate_left 1
                      · (intro w hSw;(try dsimp only at hSw);go_simp;try with_reducible rfl)
                      try simp only[Act.put,zzA,zzB,zzC,zzD,zzE,zzF]
                      refine wpAnyH_take (i:=21) (v:=?_) rfl (by kernel_rfl) (by kernel_rfl) (by kernel_rfl) (fun _ _ _ h=>h) (Or.inl ⟨by rfl,?_⟩) hHeld ?_
                      rotate_left 1
                      · (intro w hSw;obtain⟨q1,q2,q3,-⟩:=hSw;go_simp;try with_reducible rfl)
                      try simp only[Act.put,zzA,zzB,zzC,zzD,zzE,zzF]
                      refine wpAnyH_ready (rs:=[22]) (by kernel_rfl) (by simp) (AllReadyH.cons rfl (fun K hK=>?_) AllReadyH.nil)
                      clear hHeld
                      (try refine(if_pos rfl).mpr ?_)
                      go_simp
                      refine(KN.out _ ((G.refl wb).drew)).mono ?_
                      rintro e w5 ⟨rfl,g5'⟩
                      have g5:G wb w5:=((G.refl wb).drew).trans g5'
                      clear g5'
                      go_wp2_with fail
                      refine hK.out _ _ (HS.out w5 g5) (fun hHeld=>?_)
                      clear hK K
                      try simp only[Act.put,zzA,zzB,zzC,zzD,zzE,zzF]
                      refine wpAnyH_take (i:=23) (v:=?_) rfl (by kernel_rfl) (by kernel_rfl) (by kernel_rfl) (fun _ _ _ h=>h) (Or.inl ⟨by rfl,?_⟩) hHeld ?_
                      rotate_left 1
                      · (intro w hSw;(try dsimp only at hSw);go_simp;try with_reducible rfl)
                      try simp only[Act.put,zzA,zzB,zzC,zzD,zzE,zzF]
                      refine wpAnyH_take (i:=24) (v:=?_) rfl (by kernel_rfl) (by kernel_rfl) (by kernel_rfl) (fun _ _ _ h=>h) (Or.inl ⟨by rfl,?_⟩) hHeld ?_
                      rotate_left 1
                      · (intro w hSw;(try dsimp only at hSw);go_simp;try with_reducible rfl)
                      try simp only[Act.put,zzA,zzB,zzC,zzD,zzE,zzF]
                      refine wpAnyH_take (i:=25) (v:=?_) rfl (by kernel_rfl) (by kernel_rfl) (by kernel_rfl) (fun _ _ _ h=>h) (Or.inl ⟨by rfl,?_⟩) hHeld ?_
                      rotate_left 1
                      · (intro w hSw;(try dsimp only at hSw);go_simp;try with_reducible rfl)
                      try simp only[Act.put,zzA,zzB,zzC,zzD,zzE,zzF]
                      refine wpAnyH_take (i:=26) (v:=?_) rfl (by kernel_rfl) (by kernel_rfl) (by kernel_rfl) (fun _ _ _ h=>h) (Or.inl ⟨by rfl,?_⟩) hHeld ?_
                      rotate_left 1
                      · (intro w hSw;(try dsimp only at hSw);go_simp;try with_reducible rfl)
                      try simp only[Act.put,zzA,zzB,zzC,zzD,zzE,zzF]
                      refine wpAnyH_take (i:=27) (v:=?_) rfl (by kernel_rfl) (by kernel_rfl) (by kernel_rfl) (fun _ _ _ h=>h) (Or.inl ⟨by rfl,?_⟩) hHeld ?_
                      rotate_left 1
                      · (intro w hSw;obtain⟨q1,q2,q3,-⟩:=hSw;go_simp;try with_reducible rfl)
                      try simp only[Act.put,zzA,zzB,zzC,zzD,zzE,zzF]
                      refine wpAnyH_ready (rs:=[28]) (by kernel_rfl) (by simp) (AllReadyH.cons rfl (fun K hK=>?_) AllReadyH.nil)
                      clear hHeld
                      (try refine(if_pos rfl).mpr ?_)
                      go_simp
                      refine(K2.out _ g5).mono ?_
                      rintro e w6 ⟨rfl,g6'⟩
                      have g6:G wb w6:=g5.trans g6'
                      clear g6'
                      go_wp2_with fail
                      refine hK.out _ _ (HS.out w6 g6) (fun hHeld=>?_)
                      clear hK K
                      try simp only[Act.put,zzA,zzB,zzC,zzD,zzE,zzF]
                      refine wpAnyH_take (i:=29) (v:=?_) rfl (by kernel_rfl) (by kernel_rfl) (by kernel_rfl) (fun _ _ _ h=>h) (Or.inl ⟨by rfl,?_⟩) hHeld ?_
                      rotate_left 1
                      · (intro w hSw;(try dsimp only at hSw);go_simp;try with_reducible rfl)
                      try simp only[Act.put,zzA,zzB,zzC,zzD,zzE,zzF]
                      refine wpAnyH_take (i:=30) (v:=?_) rfl (by kernel_rfl) (by kernel_rfl) (by kernel_rfl) (fun _ _ _ h=>h) (Or.inl ⟨by rfl,?_⟩) hHeld ?_
                      rotate_left 1
                      · (intro w hSw;(try dsimp only at hSw);go_simp;try with_reducible rfl)
                      try simp only[Act.put,zzA,zzB,zzC,zzD,zzE,zzF]
                      refine wpAnyH_take (i:=31) (v:=?_) rfl (by kernel_rfl) (by kernel_rfl) (by kernel_rfl) (fun _ _ _ h=>h) (Or.inl ⟨by rfl,?_⟩) hHeld ?_
                      rotate_left 1
                      · (intro w hSw;(try dsimp only at hSw);go_simp;try with_reducible rfl)
                      try simp only[Act.put,zzA,zzB,zzC,zzD,zzE,zzF]
                      refine wpAnyH_take (i:=32) (v:=?_) rfl (by kernel_rfl) (by kernel_rfl) (by kernel_rfl) (fun _ _ _ h=>h) (Or.inl ⟨by rfl,?_⟩) hHeld ?_
                      rotate_left 1
                      · (intro w hSw;(try dsimp only at hSw);go_simp;try with_reducible rfl)
                      try simp only[Act.put,zzA,zzB,zzC,zzD,zzE,zzF]
                      refine wpAnyH_take (i:=33) (v:=?_) rfl (by kernel_rfl) (by kernel_rfl) (by kernel_rfl) (fun _ _ _ h=>h) (Or.inl ⟨by rfl,?_⟩) hHeld ?_
                      rotate_left 1
                      · (intro w hSw;obtain⟨q1,q2,q3,-⟩:=hSw;go_simp;try with_reducible rfl)
                      try simp only[Act.put,zzA,zzB,zzC,zzD,zzE,zzF]
                      refine wpAnyH_ready (rs:=[34]) (by kernel_rfl) (by simp) (AllReadyH.cons rfl (fun K hK=>?_) AllReadyH.nil)
                      clear hHeld
                      (try refine(if_pos rfl).mpr ?_)
                      go_simp
                      refine(K3.out _ g6).mono ?_
                      rintro e w7 ⟨rfl,g7'⟩
                      have g7:G wb w7:=g6.trans g7'
                      clear g7'
                      go_wp2_with fail
                      refine hK.out _ _ (HS.out w7 g7) (fun hHeld=>?_)
                      clear hK K
                      try simp only[Act.put,zzA,zzB,zzC,zzD,zzE,zzF]
                      refine wpAnyH_take (i:=35) (v:=?_) rfl (by kernel_rfl) (by kernel_rfl) (by kernel_rfl) (fun _ _ _ h=>h) (Or.inl ⟨by rfl,?_⟩) hHeld ?_
                      rotate_left 1
                      · (intro w hSw;(try dsimp only at hSw);go_simp;try with_reducible rfl)
                      try simp only[Act.put,zzA,zzB,zzC,zzD,zzE,zzF]
                      refine wpAnyH_take (i:=36) (v:=?_) rfl (by kernel_rfl) (by kernel_rfl) (by kernel_rfl) (fun _ _ _ h=>h) (Or.inl ⟨by rfl,?_⟩) hHeld ?_
                      rotate_left 1
                      · (intro w hSw;(try dsimp only at hSw);go_simp;try with_reducible rfl)
                      try simp only[Act.put,zzA,zzB,zzC,zzD,zzE,zzF]
                      refine wpAnyH_done (by kernel_rfl) ?_ _
                      refine NoPanic.normal ?_
                      have kq1:=(HB1W.out.G g7).cell
                      have kq5:=(HB5.out.G g7).cell
                      go_wp2_with fail
                      refine(K4.out w7 g7 x.fr).mono ?_
                      rintro e w8 ⟨⟨r,rfl,hr⟩,g8'⟩
                      have g8:=g7.trans g8'
                      clear g8' kq1 kq5
                      by_cases hm1:x.fr∈ns.map fun y=>y.id
                      · rw[decide_eq_true hm1] at hr
                        have hr2:¬r<0:=of_decide_eq_false hr
                        have kq1:=(HB1W.out.G g8).cell
                        have kq5:=(HB5.out.G g8).cell
                        have HM1:=hide hm1
                        have HB1:=hide hb1;have HST:=hide hst
                        clear hm1 hb1 hst
                        go_wp2_with fail
                        refine(K4.out w8 g8 x.to).mono ?_
                        rintro e w9 ⟨⟨r',rfl,hr'⟩,g9'⟩
                        have g9:=g8.trans g9'
                        clear g9' kq1 kq5
                        by_cases hm2:x.to∈ns.map fun y=>y.id
                        · rw[decide_eq_true hm2] at hr'
                          have hr3:¬r'<0:=of_decide_eq_false hr'
                          have HF:Hid (edgesB (ns.map fun y=>y.id) es=fromB (fun y=>y.id) (edgeOk (ns.map fun y=>y.id)) es (i+1)):=by
                            rw[Hid,HR.out,HST.out]
                            simp only[edgeOk,propsOk,HB1.out,decide_eq_true HM1.out,decide_eq_true hm2,HB2.out,HB3.out,Bool.true_and,Bool.and_true,Bool.not_false]
                          clear hm2
                          go_wp2_with fail
                          exact⟨⟨i+1,by rw[HW.out];exact srl i,HIL.out,.inr (by rw[HPN.out];exact HA1.out),HF.out,HG2.out.trans g9⟩,by rw[HW.out];exact sms HIL.out⟩
                        · rw[decide_eq_false hm2] at hr'
                          have hr3:r'<0:=of_decide_eq_true hr'
                          have HF:Hid (bb=false):=HBB.out (by rw[HR.out,HST.out];simp only[edgeOk,decide_eq_false hm2,Bool.and_false,Bool.false_and])
                          clear hm2
                          go_wp2_with fail
                          go_ret
                          exact⟨by rw[HF.out]<;>rfl,HGB.out.trans g9⟩
                      · rw[decide_eq_false hm1] at hr
                        have hr2:r<0:=of_decide_eq_true hr
                        have HF:Hid (bb=false):=HBB.out (by rw[HR.out,hst];simp only[edgeOk,decide_eq_false hm1,Bool.and_false,Bool.false_and])
                        clear hm1 hb1 hst
                        go_wp2_with fail
                        go_ret
                        exact⟨by rw[HF.out]<;>rfl,HGB.out.trans g8⟩
        · have i1:¬(i:Int)<(tn:Int):=by omega
          rw[fromB_end (by omega)] at hfr
          have HG:=hide hg
          have HFR:=hide hfr
          clear hik hpr hfr hl hil hg
          have HF:Hid (bb=true):=HBBT.out.trans HFR.out
          go_wp2_with fail
          go_ret
          exact⟨by rw[HF.out]<;>rfl,HGW.out.trans HG.out⟩
end Go.Proofs.YtifioikdhfhljaaGreatDoor
