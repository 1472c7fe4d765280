/- Rules: the law's comparers,at what is the same. -/
import Derived.Test.YtifioikdhfhljaaGreatDoorRu11
import Derived.Test.YtifioikdhfhljaaGreatDoorSh12
namespace Go.Proofs.YtifioikdhfhljaaGreatDoor
open Go.RowKit

set_option maxRecDepth 100000 in
set_option maxHeartbeats 1000000 in
theorem rprops2_any(l:List Pv)(u v:Value)(W:World)(h1:Row eP.rel W u l)(h2:Row eP.rel W v l)(hl:l.length≤4611686018427387904):Calls Tryz.prog 69 #[u,v] W fun e W'=>e=.returned (.bool true)∧G W W':=by
  obtain⟨p,cap,rfl⟩:=h1.form
  obtain⟨p',cap',rfl⟩:=h2.form
  have HA:=hide h1;have HB:=hide h2;have HL:=hide hl
  clear h1 h2 hl
  go_enter Tryz.func69,Tryz.ntmps69
  go_wp2_with fail
  go_loopw [5] (fun iv wr=>∃i:Nat,iv=I i∧i≤l.length∧G W wr) (fun iv _=>l.length-(RowKit.intOf iv).toNat)
  case atStart=>exact⟨0,rfl,Nat.zero_le _,G.refl _⟩
  case round=>
    obtain⟨i,rfl,hik,hg⟩:=hrel
    by_cases hil:i<l.length
    · obtain⟨x,hx⟩:∃x,l[i]?=some x:=⟨_,List.getElem?_eq_getElem hil⟩
      obtain⟨g,o,cp,q⟩:=HA.out.addr (by omega)
      obtain⟨g2,o2,cp2,q'⟩:=HB.out.addr (by omega)
      injection q with q1 q2 q3
      injection q' with q1' q2' q3'
      subst q1 q1' q3 q3'
      have x1:wr.cell? ⟨g,o+i*5,none⟩=some (.string x.key):=by have:=cell_G (HA.out.one hx 0 (u:=.string x.key) rfl) hg;simpa using this
      have y1:wr.cell? ⟨g2,o2+i*5,none⟩=some (.string x.key):=by have:=cell_G (HB.out.one hx 0 (u:=.string x.key) rfl) hg;simpa using this
      have x2:wr.cell? ⟨g,o+i*5+1,none⟩=some (I x.k):=by have:=cell_G (HA.out.one hx 1 (u:=I x.k) rfl) hg;simpa using this
      have y2:wr.cell? ⟨g2,o2+i*5+1,none⟩=some (I x.k):=by have:=cell_G (HB.out.one hx 1 (u:=I x.k) rfl) hg;simpa using this
      have x3:wr.cell? ⟨g,o+i*5+2,none⟩=some (I x.a):=by have:=cell_G (HA.out.one hx 2 (u:=I x.a) rfl) hg;simpa using this
      have y3:wr.cell? ⟨g2,o2+i*5+2,none⟩=some (I x.a):=by have:=cell_G (HB.out.one hx 2 (u:=I x.a) rfl) hg;simpa using this
      have x4:wr.cell? ⟨g,o+i*5+3,none⟩=some (I x.b):=by have:=cell_G (HA.out.one hx 3 (u:=I x.b) rfl) hg;simpa using this
      have y4:wr.cell? ⟨g2,o2+i*5+3,none⟩=some (I x.b):=by have:=cell_G (HB.out.one hx 3 (u:=I x.b) rfl) hg;simpa using this
      have x5:wr.cell? ⟨g,o+i*5+4,none⟩=some (.string x.s):=by have:=cell_G (HA.out.one hx 4 (u:=.string x.s) rfl) hg;simpa using this
      have y5:wr.cell? ⟨g2,o2+i*5+4,none⟩=some (.string x.s):=by have:=cell_G (HB.out.one hx 4 (u:=.string x.s) rfl) hg;simpa using this
      have i1:(i:Int)<l.length:=Int.ofNat_lt.2 hil
      have HW:Hid (wrap64 ((i:Int)+1)=(i:Int)+1):=by show _=_;have:=HL.out;unfold wrap64;omega
      have HIL:=hide hil;have HG:=hide hg
      clear hik hil hx q2 q2' hg
      go_wp2_with fail
      go_quiet (fail)
      generalize hV:World.drewN wr _=V
      have HGV:Hid (G W V):=by rw[←hV];exact HG.out.drewN _
      clear hV x1 y1 x2 y2 x3 y3 x4 y4 x5 y5
      go_wp2_with fail
      exact⟨⟨i+1,by rw[HW.out];exact srl i,HIL.out,HGV.out⟩,by rw[HW.out];exact sms HIL.out⟩
    · have i1:¬((i:Int)<l.length):=by omega
      have HG:=hide hg
      clear hik hil hg
      go_wp2_with fail
      go_ret
      exact⟨rfl,HG.out⟩
set_option maxRecDepth 100000 in
set_option maxHeartbeats 1000000 in
theorem rroom_any(l:List Pv)(v:Value)(W:World)(h:Row eP.rel W v l)(hl:l.length≤1048576):Calls Tryz.prog 65 #[v] W fun e W'=>∃a n c,e=.returned (.slice a n c)∧Sw eP 101 W' (.slice a n c) (rooms l)∧Fresh W (.slice a n c)∧G W W':=by
  obtain⟨p,cap,rfl⟩:=h.form
  obtain⟨n,hn⟩:∃n,n=l.length:=⟨_,rfl⟩
  obtain⟨i0,hi0,hz0,hz1,hz2⟩:=info_P
  have hmx:(1073741824:Nat)≤maxLen:=of_decide_eq_true (by kernel_rfl)
  obtain⟨w1,hmk,hs1,hg1,hf1⟩:=mk_P W (n+2) ((n:Int)+2) (by omega) (by omega)
  obtain⟨v2,w2,hr2,hs2,hch2,hob2⟩:=app_row (P:=Tryz.prog) (E:=eP) (tr:=42) i0 _ 56 Tryz.underlying42 hi0 hz0 hz1 hz2 rfl (by decide) hs1 (h.G hg1) (by simp;omega) (by simp;omega)
  obtain⟨hf2,hg2⟩:=hf1.app hg1 hch2 hob2
  rw[List.nil_append] at hs2
  obtain⟨a2,c2,rfl⟩:=hs2.form
  have hA:G w2 (w2.alloc (.cells #[.string {data:=#[109,97,114,107,49]},I 0,I 0,I 0,.string {data:=#[]},.string {data:=#[109,97,114,107,50]},I 0,I 0,I 0,.string {data:=#[]}] 101)):=(G.refl _).alloc _
  have hlit:Row eP.rel (w2.alloc (.cells #[.string {data:=#[109,97,114,107,49]},I 0,I 0,I 0,.string {data:=#[]},.string {data:=#[109,97,114,107,50]},I 0,I 0,I 0,.string {data:=#[]}] 101)) (.slice (some ⟨w2.heap.size,0,none⟩) 2 2) [mk1,mk2]:=Row.lit (E:=eP) w2 101 [mk1,mk2] 2 (by simp)
  obtain⟨v4,w4,hr4,hs4,hch4,hob4⟩:=app_row (P:=Tryz.prog) (E:=eP) (tr:=42) i0 _ 56 Tryz.underlying42 hi0 hz0 hz1 hz2 rfl (by decide) (hs2.G hA) hlit (by simp;omega) (by simp;omega)
  obtain⟨hf4,hg4⟩:=hf2.app (hg2.trans hA) hch4 hob4
  obtain⟨a4,c4,hv4⟩:=hs4.form
  generalize (l++[mk1,mk2]).length=n4 at hv4
  subst hv4
  have HF:Hid (Sw eP 101 w4 (.slice a4 n4 c4) (rooms l)∧Fresh W (.slice a4 n4 c4)∧G W w4):=⟨hs4,hf4,hg4⟩
  rw[←hn] at hr2 hr4 hl⊢
  have HMK:=hide hmk;have HR2:=hide hr2;have HR4:=hide hr4
  have hW:wrap64 ((n:Int)+2)=(n:Int)+2:=by unfold wrap64;omega
  clear h hl hn hi0 hz0 hz1 hz2 hmx hmk hs1 hg1 hf1 hr2 hs2 hch2 hob2 hf2 hg2 hA hlit hr4 hs4 hch4 hob4 hf4 hg4
  go_enter Tryz.func65,Tryz.ntmps65
  go_wp2_with fail
  try rw[hW]
  rw[HMK.out]
  clear hW
  go_wp2_with (first|(at_builtin;first|refine wpList_append_run rfl _ _ 42 rfl (.slice (some ⟨W.heap.size,0,none⟩) 0 (n+2)) (.slice p n cap) rfl rfl HR2.out ?_|refine wpList_append_run rfl _ _ 42 rfl (.slice a2 n c2) (.slice (some ⟨w2.heap.size,0,none⟩) 2 2) rfl rfl HR4.out ?_)|fail)
  go_ret
  exact⟨a4,n4,c4,rfl,HF.out⟩
set_option maxRecDepth 100000 in
set_option maxHeartbeats 1000000 in
theorem rlist_any(l:List Rl)(u v:Value)(W:World)(h1:Row eRl.rel W u l)(h2:Row eRl.rel W v l)(hl:l.length≤4611686018427387904):Calls Tryz.prog 24 #[u,v] W fun e W'=>e=.returned (.bool true)∧G W W':=by
  obtain⟨p,cap,rfl⟩:=h1.form
  obtain⟨p',cap',rfl⟩:=h2.form
  have HA:=hide h1;have HB:=hide h2;have HL:=hide hl
  clear h1 h2 hl
  go_enter Tryz.func24,Tryz.ntmps24
  go_wp2_with fail
  go_loopw [5] (fun iv wr=>∃i:Nat,iv=I i∧i≤l.length∧G W wr) (fun iv _=>l.length-(RowKit.intOf iv).toNat)
  case atStart=>exact⟨0,rfl,Nat.zero_le _,G.refl _⟩
  case round=>
    obtain⟨i,rfl,hik,hg⟩:=hrel
    by_cases hil:i<l.length
    · obtain⟨x,hx⟩:∃x,l[i]?=some x:=⟨_,List.getElem?_eq_getElem hil⟩
      obtain⟨g,o,cp,q⟩:=HA.out.addr (by omega)
      obtain⟨g2,o2,cp2,q'⟩:=HB.out.addr (by omega)
      injection q with q1 q2 q3
      injection q' with q1' q2' q3'
      subst q1 q1' q3 q3'
      have x1:wr.cell? ⟨g,o+i*8,none⟩=some (I x.id):=by have:=cell_G (HA.out.one hx 0 (u:=I x.id) rfl) hg;simpa using this
      have y1:wr.cell? ⟨g2,o2+i*8,none⟩=some (I x.id):=by have:=cell_G (HB.out.one hx 0 (u:=I x.id) rfl) hg;simpa using this
      have x2:wr.cell? ⟨g,o+i*8+1,none⟩=some (I x.kind):=by have:=cell_G (HA.out.one hx 1 (u:=I x.kind) rfl) hg;simpa using this
      have y2:wr.cell? ⟨g2,o2+i*8+1,none⟩=some (I x.kind):=by have:=cell_G (HB.out.one hx 1 (u:=I x.kind) rfl) hg;simpa using this
      have x3:wr.cell? ⟨g,o+i*8+2,none⟩=some (.string x.of):=by have:=cell_G (HA.out.one hx 2 (u:=.string x.of) rfl) hg;simpa using this
      have y3:wr.cell? ⟨g2,o2+i*8+2,none⟩=some (.string x.of):=by have:=cell_G (HB.out.one hx 2 (u:=.string x.of) rfl) hg;simpa using this
      have x4:wr.cell? ⟨g,o+i*8+3,none⟩=some (.string x.key):=by have:=cell_G (HA.out.one hx 3 (u:=.string x.key) rfl) hg;simpa using this
      have y4:wr.cell? ⟨g2,o2+i*8+3,none⟩=some (.string x.key):=by have:=cell_G (HB.out.one hx 3 (u:=.string x.key) rfl) hg;simpa using this
      have x5:wr.cell? ⟨g,o+i*8+4,none⟩=some (I x.is):=by have:=cell_G (HA.out.one hx 4 (u:=I x.is) rfl) hg;simpa using this
      have y5:wr.cell? ⟨g2,o2+i*8+4,none⟩=some (I x.is):=by have:=cell_G (HB.out.one hx 4 (u:=I x.is) rfl) hg;simpa using this
      have x6:wr.cell? ⟨g,o+i*8+5,none⟩=some (.string x.fr):=by have:=cell_G (HA.out.one hx 5 (u:=.string x.fr) rfl) hg;simpa using this
      have y6:wr.cell? ⟨g2,o2+i*8+5,none⟩=some (.string x.fr):=by have:=cell_G (HB.out.one hx 5 (u:=.string x.fr) rfl) hg;simpa using this
      have x7:wr.cell? ⟨g,o+i*8+6,none⟩=some (.string x.dst):=by have:=cell_G (HA.out.one hx 6 (u:=.string x.dst) rfl) hg;simpa using this
      have y7:wr.cell? ⟨g2,o2+i*8+6,none⟩=some (.string x.dst):=by have:=cell_G (HB.out.one hx 6 (u:=.string x.dst) rfl) hg;simpa using this
      have x8:wr.cell? ⟨g,o+i*8+7,none⟩=some (I x.n):=by have:=cell_G (HA.out.one hx 7 (u:=I x.n) rfl) hg;simpa using this
      have y8:wr.cell? ⟨g2,o2+i*8+7,none⟩=some (I x.n):=by have:=cell_G (HB.out.one hx 7 (u:=I x.n) rfl) hg;simpa using this
      have i1:(i:Int)<l.length:=Int.ofNat_lt.2 hil
      have HW:Hid (wrap64 ((i:Int)+1)=(i:Int)+1):=by show _=_;have:=HL.out;unfold wrap64;omega
      have HIL:=hide hil;have HG:=hide hg
      clear hik hil hx q2 q2' hg
      go_wp2_with fail
      go_quiet (fail)
      generalize hV:World.drewN wr _=V
      have HGV:Hid (G W V):=by rw[←hV];exact HG.out.drewN _
      clear hV x1 y1 x2 y2 x3 y3 x4 y4 x5 y5 x6 y6 x7 y7 x8 y8
      go_wp2_with fail
      exact⟨⟨i+1,by rw[HW.out];exact srl i,HIL.out,HGV.out⟩,by rw[HW.out];exact sms HIL.out⟩
    · have i1:¬((i:Int)<l.length):=by omega
      have HG:=hide hg
      clear hik hil hg
      go_wp2_with fail
      go_ret
      exact⟨rfl,HG.out⟩
set_option maxRecDepth 100000 in
set_option maxHeartbeats 4000000 in
theorem rsame_any(ns:List Nd)(es:List Ed)(u v u' v':Value)(W:World)(h1:Row relN W u ns)(h2:Row relE W v es)(k1:Row relN W u' ns)(k2:Row relE W v' es)(hb:SmB ns es):Calls Tryz.prog 70 #[.agg #[u,v],.agg #[u',v']] W fun e W'=>e=.returned (.bool true)∧G W W':=by
  obtain⟨pa,pc,rfl⟩:=h1.form
  obtain⟨qa,qc,rfl⟩:=h2.form
  obtain⟨ra,rc,rfl⟩:=k1.form
  obtain⟨sa,sc,rfl⟩:=k2.form
  obtain⟨nn,hnn⟩:∃n,n=ns.length:=⟨_,rfl⟩
  obtain⟨en,hen⟩:∃n,n=es.length:=⟨_,rfl⟩
  rw[←hnn] at h1 k1⊢
  rw[←hen] at h2 k2⊢
  obtain⟨w2,hw2⟩:∃w,w=((W.alloc (.cells #[.slice pa nn pc,.slice qa en qc] 25)).alloc (.cells #[.slice ra nn rc,.slice sa en sc] 25)):=⟨_,rfl⟩
  obtain⟨B2,hB2⟩:∃b,b=W.heap.size:=⟨_,rfl⟩
  obtain⟨B3,hB3⟩:∃b,b=B2+1:=⟨_,rfl⟩
  have hgw:G W w2:=by rw[hw2];exact((G.refl W).alloc _).alloc _
  have hb2:Blk w2 B2 25 [.slice pa nn pc,.slice qa en qc]:=by rw[hw2,hB2];exact(Blk.new W [.slice pa nn pc,.slice qa en qc] 25).G ((G.refl _).alloc _)
  have hb3:Blk w2 B3 25 [.slice ra nn rc,.slice sa en sc]:=by
    have:=Blk.new (W.alloc (.cells #[.slice pa nn pc,.slice qa en qc] 25)) [.slice ra nn rc,.slice sa en sc] 25
    rw[hw2,hB3,hB2]
    simpa using this
  have HEW:Hid (((W.alloc (.cells #[.slice pa nn pc,.slice qa en qc] 25)).alloc (.cells #[.slice ra nn rc,.slice sa en sc] 25))=w2):=hw2.symm
  have HE1:Hid (W.heap.size=B2):=hB2.symm
  have HE2:Hid (B2+1=B3):=hB3.symm
  have HR:Hid (_∧_∧_∧_):=⟨h1.G hgw,k1.G hgw,h2.G hgw,k2.G hgw⟩
  have HP:Hid ((∀x∈ns,x.ps.length≤4611686018427387904)∧∀x∈es,x.ps.length≤4611686018427387904):=⟨fun x hx=>by have:=hb.p x hx;omega,fun x hx=>by have:=hb.q x hx;omega⟩
  have HL:Hid (nn=ns.length∧en=es.length∧nn≤1048576∧en≤1048576):=⟨hnn,hen,by have:=hb.n;omega,by have:=hb.e;omega⟩
  have HGW:=hide hgw;have HB2:=hide hb2;have HB3:=hide hb3
  have c2:=hb2.cell
  have c3:=hb3.cell
  clear h1 h2 k1 k2 hb hw2 hB2 hB3 hgw hb2 hb3 hnn hen
  go_enter Tryz.func70,Tryz.ntmps70
  go_wp2_with (first|(rw[HEW.out];(try rw[HE1.out]);(try rw[HE2.out]);clear HEW)|fail)
  try rw[HEW.out]
  try rw[HE1.out]
  try rw[HE2.out]
  clear c2 c3
  go_loopw [5] (fun iv wr=>∃i:Nat,iv=I i∧i≤ns.length∧G w2 wr) (fun iv _=>ns.length-(RowKit.intOf iv).toNat)
  case atStart=>exact⟨0,rfl,Nat.zero_le _,G.refl _⟩
  case round=>
    rename_i wr hout
    obtain⟨i,rfl,hik,hg⟩:=hrel
    have hln:=HL.out
    have c2:=(HB2.out.G hg).cell
    have c3:=(HB3.out.G hg).cell
    by_cases hil:i<ns.length
    · obtain⟨x,hx⟩:∃y,ns[i]?=some y:=⟨_,List.getElem?_eq_getElem hil⟩
      obtain⟨g,o,cp,q⟩:=(HR.out.1).addr (by omega)
      obtain⟨g2,o2,cp2,q'⟩:=(HR.out.2.1).addr (by omega)
      injection q with q1 q2 q3
      injection q' with q1' q2' q3'
      subst q1 q1' q3 q3'
      obtain⟨cs,⟨pv,hcs,hvp⟩,hr1⟩:=(HR.out.1).at hx
      subst hcs
      obtain⟨va,vc,hvf⟩:=hvp.form
      obtain⟨vn,hvn⟩:∃n,n=x.ps.length:=⟨_,rfl⟩
      rw[←hvn] at hvf
      subst hvf
      obtain⟨cs,⟨pv,hcs,hvq⟩,hr2⟩:=(HR.out.2.1).at hx
      subst hcs
      obtain⟨ua,uc,hvf⟩:=hvq.form
      rw[←hvn] at hvf
      subst hvf
      have x1:wr.cell? ⟨g,o+i*3,none⟩=some (I x.id):=by have:=rangeAt_G hr1 hg 0 _ rfl;simpa using this
      have y1:wr.cell? ⟨g2,o2+i*3,none⟩=some (I x.id):=by have:=rangeAt_G hr2 hg 0 _ rfl;simpa using this
      have x2:wr.cell? ⟨g,o+i*3+1,none⟩=some (.string x.lb):=by have:=rangeAt_G hr1 hg 1 _ rfl;simpa using this
      have y2:wr.cell? ⟨g2,o2+i*3+1,none⟩=some (.string x.lb):=by have:=rangeAt_G hr2 hg 1 _ rfl;simpa using this
      have x3:wr.cell? ⟨g,o+i*3+2,none⟩=some (.slice va vn vc):=by have:=rangeAt_G hr1 hg 2 _ rfl;simpa using this
      have y3:wr.cell? ⟨g2,o2+i*3+2,none⟩=some (.slice ua vn uc):=by have:=rangeAt_G hr2 hg 2 _ rfl;simpa using this
      have i1:(i:Int)<(nn:Int):=by omega
      have HW:Hid (wrap64 ((i:Int)+1)=(i:Int)+1):=by show _=_;unfold wrap64;omega
      have KI:Hid (∀V,G wr V→Calls Tryz.prog 69 #[.slice va vn vc,.slice ua vn uc] V fun e W'=>e=.returned (.bool true)∧G V W'):=fun V hV=>rprops2_any x.ps _ _ V ((hvp.G hg).G hV) ((hvq.G hg).G hV) (HP.out.1 x (List.mem_of_getElem? hx))
      have HIL:=hide hil;have HG:=hide hg
      have HS:Hid (∀V,G wr V→(∀t,V.cell? ⟨B2,t,none⟩=([.slice (some ⟨g,o,none⟩) nn pc,.slice qa en qc]:List Value)[t]?)∧(∀t,V.cell? ⟨B3,t,none⟩=([.slice (some ⟨g2,o2,none⟩) nn rc,.slice sa en sc]:List Value)[t]?)∧V.cell? ⟨g,o+i*3,none⟩=some (I x.id)∧V.cell? ⟨g,o+i*3+1,none⟩=some (.string x.lb)∧V.cell? ⟨g,o+i*3+2,none⟩=some (.slice va vn vc)∧V.cell? ⟨g2,o2+i*3,none⟩=some (I x.id)∧V.cell? ⟨g2,o2+i*3+1,none⟩=some (.string x.lb)∧V.cell? ⟨g2,o2+i*3+2,none⟩=some (.slice ua vn uc)∧G wr V):=fun V h=>⟨((HB2.out.G hg).G h).cell,((HB3.out.G hg).G h).cell,cell_G x1 h,cell_G x2 h,cell_G x3 h,cell_G y1 h,cell_G y2 h,cell_G y3 h,h⟩
      clear hik hil hx q2 q2' hg hvp hvq hr1 hr2 hvn hln x1 x2 x3 y1 y2 y3
      go_wp2_with fail
      refine wp_region_noPanic ?_
      refine wp_region_held_drew (S:=(fun V=>(∀t,V.cell? ⟨B2,t,none⟩=([.slice (some ⟨g,o,none⟩) nn pc,.slice qa en qc]:List Value)[t]?)∧(∀t,V.cell? ⟨B3,t,none⟩=([.slice (some ⟨g2,o2,none⟩) nn rc,.slice sa en sc]:List Value)[t]?)∧V.cell? ⟨g,o+i*3,none⟩=some (I x.id)∧V.cell? ⟨g,o+i*3+1,none⟩=some (.string x.lb)∧V.cell? ⟨g,o+i*3+2,none⟩=some (.slice va vn vc)∧V.cell? ⟨g2,o2+i*3,none⟩=some (I x.id)∧V.cell? ⟨g2,o2+i*3+1,none⟩=some (.string x.lb)∧V.cell? ⟨g2,o2+i*3+2,none⟩=some (.slice ua vn uc)∧G wr V)) (by kernel_rfl) (HS.out _ ((G.refl _).drew)) (fun hHeld=>?_)
      refine wpAnyH_take (i:=0) (v:=?_) rfl (by kernel_rfl) (by kernel_rfl) (by kernel_rfl) (fun _ _ _ h=>h) (Or.inl ⟨by rfl,?_⟩) hHeld ?_
      rotate_left 1
      · (intro w hSw;(try dsimp only at hSw);go_simp;try with_reducible rfl)
      try simp only[Act.put,List.getElem_toArray,List.getElem_cons_zero,List.setIfInBounds_toArray,List.set_cons_zero,List.set_cons_succ]
      refine wpAnyH_take (i:=1) (v:=?_) rfl (by kernel_rfl) (by kernel_rfl) (by kernel_rfl) (fun _ _ _ h=>h) (Or.inl ⟨by rfl,?_⟩) hHeld ?_
      rotate_left 1
      · (intro w hSw;obtain⟨k1,k2,q0,q1,q2,q3,q4,q5,-⟩:=hSw;go_simp;try with_reducible rfl)
      try simp only[Act.put,List.getElem_toArray,List.getElem_cons_zero,List.getElem_cons_succ,List.setIfInBounds_toArray,List.set_cons_zero,List.set_cons_succ]
      refine wpAnyH_take (i:=2) (v:=?_) rfl (by kernel_rfl) (by kernel_rfl) (by kernel_rfl) (fun _ _ _ h=>h) (Or.inl ⟨by rfl,?_⟩) hHeld ?_
      rotate_left 1
      · (intro w hSw;(try dsimp only at hSw);go_simp;try with_reducible rfl)
      try simp only[Act.put,List.getElem_toArray,List.getElem_cons_zero,List.getElem_cons_succ,List.setIfInBounds_toArray,List.set_cons_zero,List.set_cons_succ]
      refine wpAnyH_take (i:=3) (v:=?_) rfl (by kernel_rfl) (by kernel_rfl) (by kernel_rfl) (fun _ _ _ h=>h) (Or.inl ⟨by rfl,?_⟩) hHeld ?_
      rotate_left 1
      · (intro w hSw;(try dsimp only at hSw);go_simp;try with_reducible rfl)
      try simp only[Act.put,List.getElem_toArray,List.getElem_cons_zero,List.getElem_cons_succ,List.setIfInBounds_toArray,List.set_cons_zero,List.set_cons_succ]
      refine wpAnyH_take (i:=4) (v:=?_) rfl (by kernel_rfl) (by kernel_rfl) (by kernel_rfl) (fun _ _ _ h=>h) (Or.inl ⟨by rfl,?_⟩) hHeld ?_
      rotate_left 1
      · (intro w hSw;(try dsimp only at hSw);go_simp;try with_reducible rfl)
      try simp only[Act.put,List.getElem_toArray,List.getElem_cons_zero,List.getElem_cons_succ,List.setIfInBounds_toArray,List.set_cons_zero,List.set_cons_succ]
      refine wpAnyH_take (i:=5) (v:=?_) rfl (by kernel_rfl) (by kernel_rfl) (by kernel_rfl) (fun _ _ _ h=>h) (Or.inl ⟨by rfl,?_⟩) hHeld ?_
      rotate_left 1
      · (intro w hSw;obtain⟨k1,k2,q0,q1,q2,q3,q4,q5,-⟩:=hSw;go_simp;try with_reducible rfl)
      try simp only[Act.put,List.getElem_toArray,List.getElem_cons_zero,List.getElem_cons_succ,List.setIfInBounds_toArray,List.set_cons_zero,List.set_cons_succ]
      refine wpAnyH_take (i:=6) (v:=?_) rfl (by kernel_rfl) (by kernel_rfl) (by kernel_rfl) (fun _ _ _ h=>h) (Or.inl ⟨by rfl,?_⟩) hHeld ?_
      rotate_left 1
      · (intro w hSw;(try dsimp only at hSw);go_simp;try with_reducible rfl)
      try simp only[Act.put,List.getElem_toArray,List.getElem_cons_zero,List.getElem_cons_succ,List.setIfInBounds_toArray,List.set_cons_zero,List.set_cons_succ]
      refine wpAnyH_take (i:=7) (v:=?_) rfl (by kernel_rfl) (by kernel_rfl) (by kernel_rfl) (fun _ _ _ h=>h) (Or.inl ⟨by rfl,?_⟩) hHeld ?_
      rotate_left 1
      · (intro w hSw;obtain⟨k1,k2,q0,q1,q2,q3,q4,q5,-⟩:=hSw;go_simp;try with_reducible rfl)
      try simp only[Act.put,List.getElem_toArray,List.getElem_cons_zero,List.getElem_cons_succ,List.setIfInBounds_toArray,List.set_cons_zero,List.set_cons_succ]
      refine wpAnyH_take (i:=8) (v:=?_) rfl (by kernel_rfl) (by kernel_rfl) (by kernel_rfl) (fun _ _ _ h=>h) (Or.inl ⟨by rfl,?_⟩) hHeld ?_
      rotate_left 1
      · (intro w hSw;(try dsimp only at hSw);go_simp;try with_reducible rfl)
      try simp only[Act.put,List.getElem_toArray,List.getElem_cons_zero,List.getElem_cons_succ,List.setIfInBounds_toArray,List.set_cons_zero,List.set_cons_succ]
      refine wpAnyH_take (i:=9) (v:=?_) rfl (by kernel_rfl) (by kernel_rfl) (by kernel_rfl) (fun _ _ _ h=>h) (Or.inl ⟨by rfl,?_⟩) hHeld ?_
      rotate_left 1
      · (intro w hSw;(try dsimp only at hSw);go_simp;try with_reducible rfl)
      try simp only[Act.put,List.getElem_toArray,List.getElem_cons_zero,List.getElem_cons_succ,List.setIfInBounds_toArray,List.set_cons_zero,List.set_cons_succ]
      refine wpAnyH_take (i:=10) (v:=?_) rfl (by kernel_rfl) (by kernel_rfl) (by kernel_rfl) (fun _ _ _ h=>h) (Or.inl ⟨by rfl,?_⟩) hHeld ?_
      rotate_left 1
      · (intro w hSw;(try dsimp only at hSw);go_simp;try with_reducible rfl)
      try simp only[Act.put,List.getElem_toArray,List.getElem_cons_zero,List.getElem_cons_succ,List.setIfInBounds_toArray,List.set_cons_zero,List.set_cons_succ]
      refine wpAnyH_take (i:=11) (v:=?_) rfl (by kernel_rfl) (by kernel_rfl) (by kernel_rfl) (fun _ _ _ h=>h) (Or.inl ⟨by rfl,?_⟩) hHeld ?_
      rotate_left 1
      · (intro w hSw;obtain⟨k1,k2,q0,q1,q2,q3,q4,q5,-⟩:=hSw;go_simp;try with_reducible rfl)
      try simp only[Act.put,List.getElem_toArray,List.getElem_cons_zero,List.getElem_cons_succ,List.setIfInBounds_toArray,List.set_cons_zero,List.set_cons_succ]
      refine wpAnyH_take (i:=12) (v:=?_) rfl (by kernel_rfl) (by kernel_rfl) (by kernel_rfl) (fun _ _ _ h=>h) (Or.inl ⟨by rfl,?_⟩) hHeld ?_
      rotate_left 1
      · (intro w hSw;(try dsimp only at hSw);go_simp;try with_reducible rfl)
      try simp only[Act.put,List.getElem_toArray,List.getElem_cons_zero,List.getElem_cons_succ,List.setIfInBounds_toArray,List.set_cons_zero,List.set_cons_succ]
      refine wpAnyH_take (i:=13) (v:=?_) rfl (by kernel_rfl) (by kernel_rfl) (by kernel_rfl) (fun _ _ _ h=>h) (Or.inl ⟨by rfl,?_⟩) hHeld ?_
      rotate_left 1
      · (intro w hSw;(try dsimp only at hSw);go_simp;try with_reducible rfl)
      try simp only[Act.put,List.getElem_toArray,List.getElem_cons_zero,List.getElem_cons_succ,List.setIfInBounds_toArray,List.set_cons_zero,List.set_cons_succ]
      refine wpAnyH_take (i:=14) (v:=?_) rfl (by kernel_rfl) (by kernel_rfl) (by kernel_rfl) (fun _ _ _ h=>h) (Or.inl ⟨by rfl,?_⟩) hHeld ?_
      rotate_left 1
      · (intro w hSw;(try dsimp only at hSw);go_simp;try with_reducible rfl)
      try simp only[Act.put,List.getElem_toArray,List.getElem_cons_zero,List.getElem_cons_succ,List.setIfInBounds_toArray,List.set_cons_zero,List.set_cons_succ]
      refine wpAnyH_take (i:=15) (v:=?_) rfl (by kernel_rfl) (by kernel_rfl) (by kernel_rfl) (fun _ _ _ h=>h) (Or.inl ⟨by rfl,?_⟩) hHeld ?_
      rotate_left 1
      · (intro w hSw;obtain⟨k1,k2,q0,q1,q2,q3,q4,q5,-⟩:=hSw;go_simp;try with_reducible rfl)
      try simp only[Act.put,List.getElem_toArray,List.getElem_cons_zero,List.getElem_cons_succ,List.setIfInBounds_toArray,List.set_cons_zero,List.set_cons_succ]
      refine wpAnyH_take (i:=16) (v:=?_) rfl (by kernel_rfl) (by kernel_rfl) (by kernel_rfl) (fun _ _ _ h=>h) (Or.inl ⟨by rfl,?_⟩) hHeld ?_
      rotate_left 1
      · (intro w hSw;(try dsimp only at hSw);go_simp;try with_reducible rfl)
      try simp only[Act.put,List.getElem_toArray,List.getElem_cons_zero,List.getElem_cons_succ,List.setIfInBounds_toArray,List.set_cons_zero,List.set_cons_succ]
      refine wpAnyH_take (i:=17) (v:=?_) rfl (by kernel_rfl) (by kernel_rfl) (by kernel_rfl) (fun _ _ _ h=>h) (Or.inl ⟨by rfl,?_⟩) hHeld ?_
      rotate_left 1
      · (intro w hSw;(try dsimp only at hSw);go_simp;try with_reducible rfl)
      try simp only[Act.put,List.getElem_toArray,List.getElem_cons_zero,List.getElem_cons_succ,List.setIfInBounds_toArray,List.set_cons_zero,List.set_cons_succ]
      refine wpAnyH_take (i:=18) (v:=?_) rfl (by kernel_rfl) (by kernel_rfl) (by kernel_rfl) (fun _ _ _ h=>h) (Or.inl ⟨by rfl,?_⟩) hHeld ?_
      rotate_left 1
      · (intro w hSw;(try dsimp only at hSw);go_simp;try with_reducible rfl)
      try simp only[Act.put,List.getElem_toArray,List.getElem_cons_zero,List.getElem_cons_succ,List.setIfInBounds_toArray,List.set_cons_zero,List.set_cons_succ]
      refine wpAnyH_take (i:=19) (v:=?_) rfl (by kernel_rfl) (by kernel_rfl) (by kernel_rfl) (fun _ _ _ h=>h) (Or.inl ⟨by rfl,?_⟩) hHeld ?_
      rotate_left 1
      · (intro w hSw;obtain⟨k1,k2,q0,q1,q2,q3,q4,q5,-⟩:=hSw;go_simp;try with_reducible rfl)
      try simp only[Act.put,List.getElem_toArray,List.getElem_cons_zero,List.getElem_cons_succ,List.setIfInBounds_toArray,List.set_cons_zero,List.set_cons_succ]
      refine wpAnyH_take (i:=20) (v:=?_) rfl (by kernel_rfl) (by kernel_rfl) (by kernel_rfl) (fun _ _ _ h=>h) (Or.inl ⟨by rfl,?_⟩) hHeld ?_
      rotate_left 1
      · (intro w hSw;(try dsimp only at hSw);go_simp;try with_reducible rfl)
      try simp only[Act.put,List.getElem_toArray,List.getElem_cons_zero,List.getElem_cons_succ,List.setIfInBounds_toArray,List.set_cons_zero,List.set_cons_succ]
      refine wpAnyH_take (i:=21) (v:=?_) rfl (by kernel_rfl) (by kernel_rfl) (by kernel_rfl) (fun _ _ _ h=>h) (Or.inl ⟨by rfl,?_⟩) hHeld ?_
      rotate_left 1
      · (intro w hSw;obtain⟨k1,k2,q0,q1,q2,q3,q4,q5,-⟩:=hSw;go_simp;try with_reducible rfl)
      try simp only[Act.put,List.getElem_toArray,List.getElem_cons_zero,List.getElem_cons_succ,List.setIfInBounds_toArray,List.set_cons_zero,List.set_cons_succ]
      refine wpAnyH_take (i:=22) (v:=?_) rfl (by kernel_rfl) (by kernel_rfl) (by kernel_rfl) (fun _ _ _ h=>h) (Or.inl ⟨by rfl,?_⟩) hHeld ?_
      rotate_left 1
      · (intro w hSw;(try dsimp only at hSw);go_simp;try with_reducible rfl)
      try simp only[Act.put,List.getElem_toArray,List.getElem_cons_zero,List.getElem_cons_succ,List.setIfInBounds_toArray,List.set_cons_zero,List.set_cons_succ]
      refine wpAnyH_take (i:=23) (v:=?_) rfl (by kernel_rfl) (by kernel_rfl) (by kernel_rfl) (fun _ _ _ h=>h) (Or.inl ⟨by rfl,?_⟩) hHeld ?_
      rotate_left 1
      · (intro w hSw;(try dsimp only at hSw);go_simp;try with_reducible rfl)
      try simp only[Act.put,List.getElem_toArray,List.getElem_cons_zero,List.getElem_cons_succ,List.setIfInBounds_toArray,List.set_cons_zero,List.set_cons_succ]
      refine wpAnyH_take (i:=24) (v:=?_) rfl (by kernel_rfl) (by kernel_rfl) (by kernel_rfl) (fun _ _ _ h=>h) (Or.inl ⟨by rfl,?_⟩) hHeld ?_
      rotate_left 1
      · (intro w hSw;(try dsimp only at hSw);go_simp;try with_reducible rfl)
      try simp only[Act.put,List.getElem_toArray,List.getElem_cons_zero,List.getElem_cons_succ,List.setIfInBounds_toArray,List.set_cons_zero,List.set_cons_succ]
      refine wpAnyH_take (i:=25) (v:=?_) rfl (by kernel_rfl) (by kernel_rfl) (by kernel_rfl) (fun _ _ _ h=>h) (Or.inl ⟨by rfl,?_⟩) hHeld ?_
      rotate_left 1
      · (intro w hSw;obtain⟨k1,k2,q0,q1,q2,q3,q4,q5,-⟩:=hSw;go_simp;try with_reducible rfl)
      try simp only[Act.put,List.getElem_toArray,List.getElem_cons_zero,List.getElem_cons_succ,List.setIfInBounds_toArray,List.set_cons_zero,List.set_cons_succ]
      refine wpAnyH_take (i:=26) (v:=?_) rfl (by kernel_rfl) (by kernel_rfl) (by kernel_rfl) (fun _ _ _ h=>h) (Or.inl ⟨by rfl,?_⟩) hHeld ?_
      rotate_left 1
      · (intro w hSw;(try dsimp only at hSw);go_simp;try with_reducible rfl)
      try simp only[Act.put,List.getElem_toArray,List.getElem_cons_zero,List.getElem_cons_succ,List.setIfInBounds_toArray,List.set_cons_zero,List.set_cons_succ]
      refine wpAnyH_take (i:=27) (v:=?_) rfl (by kernel_rfl) (by kernel_rfl) (by kernel_rfl) (fun _ _ _ h=>h) (Or.inl ⟨by rfl,?_⟩) hHeld ?_
      rotate_left 1
      · (intro w hSw;(try dsimp only at hSw);go_simp;try with_reducible rfl)
      try simp only[Act.put,List.getElem_toArray,List.getElem_cons_zero,List.getElem_cons_succ,List.setIfInBounds_toArray,List.set_cons_zero,List.set_cons_succ]
      refine wpAnyH_take (i:=28) (v:=?_) rfl (by kernel_rfl) (by kernel_rfl) (by kernel_rfl) (fun _ _ _ h=>h) (Or.inl ⟨by rfl,?_⟩) hHeld ?_
      rotate_left 1
      · (intro w hSw;(try dsimp only at hSw);go_simp;try with_reducible rfl)
      try simp only[Act.put,List.getElem_toArray,List.getElem_cons_zero,List.getElem_cons_succ,List.setIfInBounds_toArray,List.set_cons_zero,List.set_cons_succ]
      refine wpAnyH_take (i:=29) (v:=?_) rfl (by kernel_rfl) (by kernel_rfl) (by kernel_rfl) (fun _ _ _ h=>h) (Or.inl ⟨by rfl,?_⟩) hHeld ?_
      rotate_left 1
      · (intro w hSw;(try dsimp only at hSw);go_simp;try with_reducible rfl)
      try simp only[Act.put,List.getElem_toArray,List.getElem_cons_zero,List.getElem_cons_succ,List.setIfInBounds_toArray,List.set_cons_zero,List.set_cons_succ]
      refine wpAnyH_take (i:=30) (v:=?_) rfl (by kernel_rfl) (by kernel_rfl) (by kernel_rfl) (fun _ _ _ h=>h) (Or.inl ⟨by rfl,?_⟩) hHeld ?_
      rotate_left 1
      · (intro w hSw;obtain⟨k1,k2,q0,q1,q2,q3,q4,q5,-⟩:=hSw;go_simp;try with_reducible rfl)
      try simp only[Act.put,List.getElem_toArray,List.getElem_cons_zero,List.getElem_cons_succ,List.setIfInBounds_toArray,List.set_cons_zero,List.set_cons_succ]
      refine wpAnyH_take (i:=31) (v:=?_) rfl (by kernel_rfl) (by kernel_rfl) (by kernel_rfl) (fun _ _ _ h=>h) (Or.inl ⟨by rfl,?_⟩) hHeld ?_
      rotate_left 1
      · (intro w hSw;(try dsimp only at hSw);go_simp;try with_reducible rfl)
      try simp only[Act.put,List.getElem_toArray,List.getElem_cons_zero,List.getElem_cons_succ,List.setIfInBounds_toArray,List.set_cons_zero,List.set_cons_succ]
      refine wpAnyH_take (i:=32) (v:=?_) rfl (by kernel_rfl) (by kernel_rfl) (by kernel_rfl) (fun _ _ _ h=>h) (Or.inl ⟨by rfl,?_⟩) hHeld ?_
      rotate_left 1
      · (intro w hSw;(try dsimp only at hSw);go_simp;try with_reducible rfl)
      try simp only[Act.put,List.getElem_toArray,List.getElem_cons_zero,List.getElem_cons_succ,List.setIfInBounds_toArray,List.set_cons_zero,List.set_cons_succ]
      refine wpAnyH_take (i:=33) (v:=?_) rfl (by kernel_rfl) (by kernel_rfl) (by kernel_rfl) (fun _ _ _ h=>h) (Or.inl ⟨by rfl,?_⟩) hHeld ?_
      rotate_left 1
      · (intro w hSw;(try dsimp only at hSw);go_simp;try with_reducible rfl)
      try simp only[Act.put,List.getElem_toArray,List.getElem_cons_zero,List.getElem_cons_succ,List.setIfInBounds_toArray,List.set_cons_zero,List.set_cons_succ]
      refine wpAnyH_take (i:=34) (v:=?_) rfl (by kernel_rfl) (by kernel_rfl) (by kernel_rfl) (fun _ _ _ h=>h) (Or.inl ⟨by rfl,?_⟩) hHeld ?_
      rotate_left 1
      · (intro w hSw;obtain⟨k1,k2,q0,q1,q2,q3,q4,q5,-⟩:=hSw;go_simp;try with_reducible rfl)
      try simp only[Act.put,List.getElem_toArray,List.getElem_cons_zero,List.getElem_cons_succ,List.setIfInBounds_toArray,List.set_cons_zero,List.set_cons_succ]
      refine wpAnyH_take (i:=35) (v:=?_) rfl (by kernel_rfl) (by kernel_rfl) (by kernel_rfl) (fun _ _ _ h=>h) (Or.inl ⟨by rfl,?_⟩) hHeld ?_
      rotate_left 1
      · (intro w hSw;(try dsimp only at hSw);go_simp;try with_reducible rfl)
      try simp only[Act.put,List.getElem_toArray,List.getElem_cons_zero,List.getElem_cons_succ,List.setIfInBounds_toArray,List.set_cons_zero,List.set_cons_succ]
      refine wpAnyH_take (i:=36) (v:=?_) rfl (by kernel_rfl) (by kernel_rfl) (by kernel_rfl) (fun _ _ _ h=>h) (Or.inl ⟨by rfl,?_⟩) hHeld ?_
      rotate_left 1
      · (intro w hSw;obtain⟨k1,k2,q0,q1,q2,q3,q4,q5,-⟩:=hSw;go_simp;try with_reducible rfl)
      try simp only[Act.put,List.getElem_toArray,List.getElem_cons_zero,List.getElem_cons_succ,List.setIfInBounds_toArray,List.set_cons_zero,List.set_cons_succ]
      refine wpAnyH_take (i:=37) (v:=?_) rfl (by kernel_rfl) (by kernel_rfl) (by kernel_rfl) (fun _ _ _ h=>h) (Or.inl ⟨by rfl,?_⟩) hHeld ?_
      rotate_left 1
      · (intro w hSw;(try dsimp only at hSw);go_simp;try with_reducible rfl)
      try simp only[Act.put,List.getElem_toArray,List.getElem_cons_zero,List.getElem_cons_succ,List.setIfInBounds_toArray,List.set_cons_zero,List.set_cons_succ]
      refine wpAnyH_take (i:=38) (v:=?_) rfl (by kernel_rfl) (by kernel_rfl) (by kernel_rfl) (fun _ _ _ h=>h) (Or.inl ⟨by rfl,?_⟩) hHeld ?_
      rotate_left 1
      · (intro w hSw;(try dsimp only at hSw);go_simp;try with_reducible rfl)
      try simp only[Act.put,List.getElem_toArray,List.getElem_cons_zero,List.getElem_cons_succ,List.setIfInBounds_toArray,List.set_cons_zero,List.set_cons_succ]
      refine wpAnyH_take (i:=39) (v:=?_) rfl (by kernel_rfl) (by kernel_rfl) (by kernel_rfl) (fun _ _ _ h=>h) (Or.inl ⟨by rfl,?_⟩) hHeld ?_
      rotate_left 1
      · (intro w hSw;(try dsimp only at hSw);go_simp;try with_reducible rfl)
      try simp only[Act.put,List.getElem_toArray,List.getElem_cons_zero,List.getElem_cons_succ,List.setIfInBounds_toArray,List.set_cons_zero,List.set_cons_succ]
      refine wpAnyH_take (i:=40) (v:=?_) rfl (by kernel_rfl) (by kernel_rfl) (by kernel_rfl) (fun _ _ _ h=>h) (Or.inl ⟨by rfl,?_⟩) hHeld ?_
      rotate_left 1
      · (intro w hSw;obtain⟨k1,k2,q0,q1,q2,q3,q4,q5,-⟩:=hSw;go_simp;try with_reducible rfl)
      try simp only[Act.put,List.getElem_toArray,List.getElem_cons_zero,List.getElem_cons_succ,List.setIfInBounds_toArray,List.set_cons_zero,List.set_cons_succ]
      refine wpAnyH_ready (rs:=[41]) (by kernel_rfl) (by simp) (AllReadyH.cons rfl (fun K hK=>?_) AllReadyH.nil)
      clear hHeld
      (try refine(if_pos rfl).mpr ?_)
      go_simp
      refine(KI.out _ ((G.refl _).drew)).mono ?_
      rintro e w5 ⟨rfl,g5'⟩
      have g5:G wr w5:=((G.refl _).drew).trans g5'
      go_wp2_with fail
      refine hK.out _ _ (HS.out w5 g5) (fun hHeld=>?_)
      clear hK K
      try simp only[Act.put,List.getElem_toArray,List.getElem_cons_zero,List.getElem_cons_succ,List.setIfInBounds_toArray,List.set_cons_zero,List.set_cons_succ]
      refine wpAnyH_take (i:=42) (v:=?_) rfl (by kernel_rfl) (by kernel_rfl) (by kernel_rfl) (fun _ _ _ h=>h) (Or.inl ⟨by rfl,?_⟩) hHeld ?_
      rotate_left 1
      · (intro w hSw;(try dsimp only at hSw);go_simp;try with_reducible rfl)
      try simp only[Act.put,List.getElem_toArray,List.getElem_cons_zero,List.getElem_cons_succ,List.setIfInBounds_toArray,List.set_cons_zero,List.set_cons_succ]
      refine wpAnyH_take (i:=43) (v:=?_) rfl (by kernel_rfl) (by kernel_rfl) (by kernel_rfl) (fun _ _ _ h=>h) (Or.inl ⟨by rfl,?_⟩) hHeld ?_
      rotate_left 1
      · (intro w hSw;(try dsimp only at hSw);go_simp;try with_reducible rfl)
      try simp only[Act.put,List.getElem_toArray,List.getElem_cons_zero,List.getElem_cons_succ,List.setIfInBounds_toArray,List.set_cons_zero,List.set_cons_succ]
      refine wpAnyH_done (by kernel_rfl) ?_ _
      refine NoPanic.normal ?_
      have HG5:=hide (HG.out.trans g5)
      clear g5 g5' c2 c3
      go_wp2_with fail
      exact⟨⟨i+1,by rw[HW.out];exact srl i,HIL.out,HG5.out⟩,by rw[HW.out];exact sms HIL.out⟩
    · have i1:¬((i:Int)<(nn:Int)):=by omega
      have HG0:=hide hg
      clear hik hil hg hln
      go_wp2_with fail
      clear i1 c2 c3
      go_loopw [6,7,8] (fun iv _ _ wr=>∃i:Nat,iv=I i∧i≤es.length∧G w2 wr) (fun iv _ _ _=>es.length-(RowKit.intOf iv).toNat)
      case atStart=>exact⟨0,rfl,Nat.zero_le _,HG0.out⟩
      case round=>
        clear HG0
        rename_i wr hout
        obtain⟨i,rfl,hik,hg⟩:=hrel
        have hln:=HL.out
        have c2:=(HB2.out.G hg).cell
        have c3:=(HB3.out.G hg).cell
        by_cases hil:i<es.length
        · obtain⟨x,hx⟩:∃y,es[i]?=some y:=⟨_,List.getElem?_eq_getElem hil⟩
          obtain⟨g,o,cp,q⟩:=(HR.out.2.2.1).addr (by omega)
          obtain⟨g2,o2,cp2,q'⟩:=(HR.out.2.2.2).addr (by omega)
          injection q with q1 q2 q3
          injection q' with q1' q2' q3'
          subst q1 q1' q3 q3'
          obtain⟨cs,⟨pv,hcs,hvp⟩,hr1⟩:=(HR.out.2.2.1).at hx
          subst hcs
          obtain⟨va,vc,hvf⟩:=hvp.form
          obtain⟨vn,hvn⟩:∃n,n=x.ps.length:=⟨_,rfl⟩
          rw[←hvn] at hvf
          subst hvf
          obtain⟨cs,⟨pv,hcs,hvq⟩,hr2⟩:=(HR.out.2.2.2).at hx
          subst hcs
          obtain⟨ua,uc,hvf⟩:=hvq.form
          rw[←hvn] at hvf
          subst hvf
          have x1:wr.cell? ⟨g,o+i*5,none⟩=some (I x.id):=by have:=rangeAt_G hr1 hg 0 _ rfl;simpa using this
          have y1:wr.cell? ⟨g2,o2+i*5,none⟩=some (I x.id):=by have:=rangeAt_G hr2 hg 0 _ rfl;simpa using this
          have x2:wr.cell? ⟨g,o+i*5+1,none⟩=some (.string x.ty):=by have:=rangeAt_G hr1 hg 1 _ rfl;simpa using this
          have y2:wr.cell? ⟨g2,o2+i*5+1,none⟩=some (.string x.ty):=by have:=rangeAt_G hr2 hg 1 _ rfl;simpa using this
          have x3:wr.cell? ⟨g,o+i*5+2,none⟩=some (I x.fr):=by have:=rangeAt_G hr1 hg 2 _ rfl;simpa using this
          have y3:wr.cell? ⟨g2,o2+i*5+2,none⟩=some (I x.fr):=by have:=rangeAt_G hr2 hg 2 _ rfl;simpa using this
          have x4:wr.cell? ⟨g,o+i*5+3,none⟩=some (I x.to):=by have:=rangeAt_G hr1 hg 3 _ rfl;simpa using this
          have y4:wr.cell? ⟨g2,o2+i*5+3,none⟩=some (I x.to):=by have:=rangeAt_G hr2 hg 3 _ rfl;simpa using this
          have x5:wr.cell? ⟨g,o+i*5+4,none⟩=some (.slice va vn vc):=by have:=rangeAt_G hr1 hg 4 _ rfl;simpa using this
          have y5:wr.cell? ⟨g2,o2+i*5+4,none⟩=some (.slice ua vn uc):=by have:=rangeAt_G hr2 hg 4 _ rfl;simpa using this
          have i1:(i:Int)<(en:Int):=by omega
          have HW:Hid (wrap64 ((i:Int)+1)=(i:Int)+1):=by show _=_;unfold wrap64;omega
          have KI:Hid (∀V,G wr V→Calls Tryz.prog 69 #[.slice va vn vc,.slice ua vn uc] V fun e W'=>e=.returned (.bool true)∧G V W'):=fun V hV=>rprops2_any x.ps _ _ V ((hvp.G hg).G hV) ((hvq.G hg).G hV) (HP.out.2 x (List.mem_of_getElem? hx))
          have HIL:=hide hil;have HG:=hide hg
          obtain⟨w4,hw4⟩:∃w,w=(wr.alloc (.cells #[I x.id,.string x.ty,I x.fr,I x.to,.slice va vn vc] 72)).alloc (.cells #[I x.id,.string x.ty,I x.fr,I x.to,.slice ua vn uc] 72):=⟨_,rfl⟩
          obtain⟨B7,hB7⟩:∃b,b=wr.heap.size:=⟨_,rfl⟩
          obtain⟨B8,hB8⟩:∃b,b=B7+1:=⟨_,rfl⟩
          have hg4:G wr w4:=by rw[hw4];exact((G.refl wr).alloc _).alloc _
          have c7:∀t,w4.cell? ⟨B7,t,none⟩=([I x.id,.string x.ty,I x.fr,I x.to,.slice va vn vc]:List Value)[t]?:=by rw[hw4,hB7];exact((Blk.new wr [I x.id,.string x.ty,I x.fr,I x.to,.slice va vn vc] 72).G ((G.refl _).alloc _)).cell
          have c8:∀t,w4.cell? ⟨B8,t,none⟩=([I x.id,.string x.ty,I x.fr,I x.to,.slice ua vn uc]:List Value)[t]?:=by
            rw[hw4,hB8,hB7]
            simp
          obtain⟨w3,hw3⟩:∃w,w=wr.alloc (.cells #[I x.id,.string x.ty,I x.fr,I x.to,.slice va vn vc] 72):=⟨_,rfl⟩
          have hg3:G wr w3:=by rw[hw3];exact(G.refl wr).alloc _
          have HE3:Hid (wr.alloc (.cells #[I x.id,.string x.ty,I x.fr,I x.to,.slice va vn vc] 72)=w3):=hw3.symm
          have HE4:Hid (w3.alloc (.cells #[I x.id,.string x.ty,I x.fr,I x.to,.slice ua vn uc] 72)=w4):=by rw[hw3];exact hw4.symm
          have HE7:Hid (wr.heap.size=B7):=hB7.symm
          have HE8:Hid (w3.heap.size=B8):=by show w3.heap.size=B8;rw[hw3,hB8,hB7];simp
          have c23:=((HB2.out.G hg).G hg3).cell
          have c33:=((HB3.out.G hg).G hg3).cell
          have z1:=cell_G y1 hg3
          have z2:=cell_G y2 hg3
          have z3:=cell_G y3 hg3
          have z4:=cell_G y4 hg3
          have z5:=cell_G y5 hg3
          have K4:=hide (KI.out w4 hg4)
          have HG4:=hide (hg.trans hg4)
          clear hik hil hx q2 q2' hg hvp hvq hr1 hr2 hvn hln hw4 hB7 hB8 hg4 hw3 hg3 KI
          go_wp2_with (first|(rw[HE3.out];(try rw[HE7.out]);clear HE3)|(rw[HE4.out];(try rw[HE8.out]);clear HE4)|fail)
          refine K4.out.mono ?_
          rintro e w9 ⟨rfl,hg9⟩
          have HG9:=hide (HG4.out.trans hg9)
          clear hg9 K4 x1 y1 z1 x2 y2 z2 x3 y3 z3 x4 y4 z4 x5 y5 z5 c2 c3 c7 c8 c23 c33
          go_wp2_with fail
          exact⟨⟨i+1,by rw[HW.out];exact srl i,HIL.out,HG9.out⟩,by rw[HW.out];exact sms HIL.out⟩
        · have i1:¬((i:Int)<(en:Int)):=by omega
          have HG:=hide hg
          clear hik hil hg hln
          go_wp2_with fail
          go_ret
          exact⟨rfl,HGW.out.trans HG.out⟩
end Go.Proofs.YtifioikdhfhljaaGreatDoor
