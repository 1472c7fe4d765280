/- Rules: may it be loaded? Both Reads. -/
import Derived.Test.YtifioikdhfhljaaGreatDoorRu10
import Derived.Test.YtifioikdhfhljaaGreatDoorSh8
namespace Go.Proofs.YtifioikdhfhljaaGreatDoor
open Go.RowKit

theorem results_tct{fn:Func}{t p u:Tmp}{ty:TypeId}(h:fn.results=#[.tmp t,.cell p ty,.tmp u])(tmps:Array Value)(P:Program)(w:World) :
    (results fn tmps).run P w=((asAddr (tmps.getD p undef)).run P w).andThen fun a w₁=>((loadVar ty a).run P w₁).andThen fun v w₂=>.ok (.tuple #[tmps.getD t undef,v,tmps.getD u undef]) w₂:=by
  simp only[results,h]
  simp[Sem.run_bind,Result.andThen]
theorem retRd(tmps:Array Value)(W:World)(rb:Nat)(cs:List Value)(v:Value)(c:Int)(h2:tmps.getD 2 undef=v)(hp:tmps.getD 3 undef=.pointer (some ⟨rb,0,none⟩))(hc:tmps.getD 4 undef=I c)(hr:Blk W rb 59 cs)(hl:cs.length=3) :
    (results Tryz.f22 tmps).run Tryz.prog W=.ok (.tuple #[v,.agg cs.toArray,I c]) W:=by
  rw[results_tct Tryz.results22,h2,hp,hc]
  have h:=run_loadVar_mid (P:=Tryz.prog) W rb 0 59 cs _ (by have:=hr.range 0 3;rw[List.drop_zero,List.take_of_length_le (by omega)] at this;exact this) Tryz.underlying59 rfl (by rw[hl];kernel_rfl)
  simp only[asAddr,Sem.run_pure,Result.andThen_ok,h]
theorem retDr(tmps:Array Value)(W:World)(rb:Nat)(cs:List Value)(v:Value)(c:Int)(h2:tmps.getD 2 undef=v)(hp:tmps.getD 3 undef=.pointer (some ⟨rb,0,none⟩))(hc:tmps.getD 4 undef=I c)(hr:Blk W rb 59 cs)(hl:cs.length=3) :
    (results Tryz.f23 tmps).run Tryz.prog W=.ok (.tuple #[v,.agg cs.toArray,I c]) W:=by
  rw[results_tct Tryz.results23,h2,hp,hc]
  have h:=run_loadVar_mid (P:=Tryz.prog) W rb 0 59 cs _ (by have:=hr.range 0 3;rw[List.drop_zero,List.take_of_length_le (by omega)] at this;exact this) Tryz.underlying59 rfl (by rw[hl];kernel_rfl)
  simp only[asAddr,Sem.run_pure,Result.andThen_ok,h]
set_option maxRecDepth 100000 in
set_option maxHeartbeats 1000000 in
theorem rload_any(ns:List Nd)(es:List Ed)(u v:Value)(W:World)(h1:Row relN W u ns)(h2:Row relE W v es)(hb:GrB ns es)(hr:IdOk ns es)(hT:Tabs W):Calls Tryz.prog 66 #[.agg #[u,v]] W fun e W'=>e=.returned (.bool (mayB ns es))∧G W W':=by
  have hg:G W (W.alloc (.cells #[u,v] 25)):=(G.refl W).alloc _
  have c1:=(Blk.new W [u,v] 25).cell
  have HG:=hide hg
  cases hm:mayB ns es with
  | false=>
    have K:=hide (load_no ns es u v _ (h1.G hg) (h2.G hg) hb (hT.G hg) hm)
    clear h1 h2 hb hr hT hm hg
    go_enter Tryz.func66,Tryz.ntmps66
    go_wp2_with fail
    refine K.out.mono ?_
    rintro e w1 ⟨rfl,hg1⟩
    go_wp2_with fail
    go_ret
    exact⟨rfl,HG.out.trans hg1⟩
  | true=>
    have K:=hide (load_yes ns es u v _ (h1.G hg) (h2.G hg) hb hr (hT.G hg) hm)
    clear h1 h2 hb hr hT hm hg
    go_enter Tryz.func66,Tryz.ntmps66
    go_wp2_with fail
    refine K.out.mono ?_
    rintro e w1 ⟨⟨mb,nid,eid,m1,m2,b1,b2,g1,g2,f1,f2,rfl,-⟩,hg1⟩
    go_wp2_with fail
    go_ret
    exact⟨rfl,HG.out.trans hg1⟩
theorem info_Rl:∃i,Tryz.prog.info? 66=some i∧i.zero=some (.agg #[I 0,I 0,.string {data:=#[]},.string {data:=#[]},I 0,.string {data:=#[]},.string {data:=#[]},I 0])∧i.size=8∧i.bytes=96:=info_parts (by kernel_rfl)
def isR(x:Nd):Bool:=x.lb.toList==[114,117,108,101]
/-- What a Read answers at a graph. -/
def ReadE(ns:List Nd)(B:Nd→Bool)(R:Nd→Rl)(W W':World)(e:Ending):Prop:=
  (∃x,(ns.find? fun y=>isR y&&!B y)=some x∧e=.returned (.tuple #[.slice none 0 0,.agg #[I 0,I x.id,I 0],I 181]))∨
  ((ns.find? fun y=>isR y&&!B y)=none∧∃a n c,e=.returned (.tuple #[.slice a n c,.agg #[I 0,I 0,I 0],I 0])∧Sw eRl 66 W' (.slice a n c) ((ns.filter isR).map R)∧Fresh W (.slice a n c))
set_option maxRecDepth 100000 in
set_option maxHeartbeats 4000000 in
theorem rread_no(ns:List Nd)(es:List Ed)(nv ev:Value)(W:World)(h1:Row relN W nv ns)(h2:Row relE W ev es)(hl:ns.length≤1048576)
    (hM:∀(u v:Value) (V:World),G W V→Row relN V u ns→Row relE V v es→Calls Tryz.prog 66 #[.agg #[u,v]] V fun e W'=>e=.returned (.bool (mayB ns es))∧G V W') (hm:mayB ns es=false):Calls Tryz.prog 22 #[.agg #[nv,ev]] W fun e W'=>e=.returned (.tuple #[.slice none 0 0,.agg #[I 0,I 0,I 0],I 122])∧G W W':=by
  obtain⟨na,nc,rfl⟩:=h1.form
  obtain⟨nn,hnn⟩:∃n,n=ns.length:=⟨_,rfl⟩
  rw[←hnn] at h1⊢
  obtain⟨w2,hw2⟩:∃w,w=((W.alloc (.cells #[.slice na nn nc,ev] 25)).alloc (.cells #[I 0,I 0,I 0] 59)):=⟨_,rfl⟩
  obtain⟨B1,hB1⟩:∃b,b=W.heap.size:=⟨_,rfl⟩
  obtain⟨rb,hrb⟩:∃b,b=B1+1:=⟨_,rfl⟩
  have hgw:G W w2:=by rw[hw2];exact((G.refl W).alloc _).alloc _
  have hb1:Blk w2 B1 25 [.slice na nn nc,ev]:=by rw[hw2,hB1];exact(Blk.new W [.slice na nn nc,ev] 25).G ((G.refl _).alloc _)
  have hb2:Blk w2 rb 59 [I 0,I 0,I 0]:=by
    have:=Blk.new (W.alloc (.cells #[.slice na nn nc,ev] 25)) [I 0,I 0,I 0] 59
    rw[hw2,hrb,hB1]
    simpa using this
  have e0:=((Blk.new W [.slice na nn nc,ev] 25).G ((G.refl _).alloc (.cells #[I 0,I 0,I 0] 59))).cell
  have HEW:Hid (((W.alloc (.cells #[.slice na nn nc,ev] 25)).alloc (.cells #[I 0,I 0,I 0] 59))=w2):=hw2.symm
  have HE1:Hid (W.heap.size=B1):=hB1.symm
  have HE2:Hid (B1+1=rb):=hrb.symm
  have HLO:Hid (W.heap.size≤rb∧W.heap.size≤B1∧B1≠rb):=⟨by omega,by omega,by omega⟩
  have KM:=hide (hM _ _ w2 hgw (h1.G hgw) (h2.G hgw))
  have HA:=hide h1;have HGW:=hide hgw;have HB1:=hide hb1;have HRB:=hide hb2
  have HN:Hid (nn=ns.length∧nn≤1048576):=⟨hnn,by omega⟩
  have c1:=hb1.cell
  clear h1 h2 hM hl hw2 hB1 hrb hgw hb1 hb2 hnn
  rw[hm] at KM
  clear hm
  go_enter Tryz.func22,Tryz.ntmps22
  go_wp2_with (first|(rw[HEW.out];(try rw[HE1.out]);(try rw[HE2.out]);clear HEW e0)|fail)
  try rw[HEW.out]
  try rw[HE1.out]
  try rw[HE2.out]
  refine KM.out.mono ?_
  rintro e w3 ⟨rfl,hg3⟩
  clear c1
  have hg9:=HGW.out.trans hg3
  have hrb9:=HRB.out.G hg3
  have c9:=hrb9.cell;have z9:=hrb9.frozen
  have HC9:=hide (((hrb9.set 0 (I 0)).set 1 (I 0)).set 2 (I 0))
  have HG9:Hid (G W (((w3.setCell ⟨rb,0,none⟩ (I 0)).setCell ⟨rb,1,none⟩ (I 0)).setCell ⟨rb,2,none⟩ (I 0))):=(((hg9.setCell HLO.out.1 (I 0)).setCell HLO.out.1 (I 0)).setCell HLO.out.1 (I 0))
  clear hrb9 hg9
  go_wp2_with fail
  exact bodyPost_ret_by (v:=.tuple #[.slice none 0 0,.agg #[I 0,I 0,I 0],I 122]) (retRd _ _ rb _ _ _ rfl rfl rfl HC9.out rfl) rfl ⟨rfl,HG9.out⟩
set_option maxRecDepth 100000 in
set_option maxHeartbeats 4000000 in
theorem rread_yes(B:Nd→Bool)(R:Nd→Rl)(ns:List Nd)(es:List Ed)(nv ev:Value)(W:World)(h1:Row relN W nv ns)(h2:Row relE W ev es)(hl:ns.length≤1048576)
    (hM:∀(u v:Value) (V:World),G W V→Row relN V u ns→Row relE V v es→Calls Tryz.prog 66 #[.agg #[u,v]] V fun e W'=>e=.returned (.bool (mayB ns es))∧G V W') (hm:mayB ns es=true)
    (hS:∀x∈ns,∀(pv:Value) (V:World),G W V→Row eP.rel V pv x.ps→Calls Tryz.prog 67 #[.agg #[I x.id,.string x.lb,pv]] V fun e W'=>(∃r:Rl,e=.returned (.tuple #[.agg #[I r.id,I r.kind,.string r.of,.string r.key,I r.is,.string r.fr,.string r.dst,I r.n],.bool (B x)])∧(B x=true→r=R x))∧G V W') :
    Calls Tryz.prog 22 #[.agg #[nv,ev]] W fun e W'=>ReadE ns B R W W' e∧G W W':=by
  obtain⟨na,nc,rfl⟩:=h1.form
  obtain⟨nn,hnn⟩:∃n,n=ns.length:=⟨_,rfl⟩
  rw[←hnn] at h1⊢
  obtain⟨w2,hw2⟩:∃w,w=((W.alloc (.cells #[.slice na nn nc,ev] 25)).alloc (.cells #[I 0,I 0,I 0] 59)):=⟨_,rfl⟩
  obtain⟨B1,hB1⟩:∃b,b=W.heap.size:=⟨_,rfl⟩
  obtain⟨rb,hrb⟩:∃b,b=B1+1:=⟨_,rfl⟩
  have hgw:G W w2:=by rw[hw2];exact((G.refl W).alloc _).alloc _
  have hb1:Blk w2 B1 25 [.slice na nn nc,ev]:=by rw[hw2,hB1];exact(Blk.new W [.slice na nn nc,ev] 25).G ((G.refl _).alloc _)
  have hb2:Blk w2 rb 59 [I 0,I 0,I 0]:=by
    have:=Blk.new (W.alloc (.cells #[.slice na nn nc,ev] 25)) [I 0,I 0,I 0] 59
    rw[hw2,hrb,hB1]
    simpa using this
  have e0:=((Blk.new W [.slice na nn nc,ev] 25).G ((G.refl _).alloc (.cells #[I 0,I 0,I 0] 59))).cell
  have HEW:Hid (((W.alloc (.cells #[.slice na nn nc,ev] 25)).alloc (.cells #[I 0,I 0,I 0] 59))=w2):=hw2.symm
  have HE1:Hid (W.heap.size=B1):=hB1.symm
  have HE2:Hid (B1+1=rb):=hrb.symm
  have HLO:Hid (W.heap.size≤rb∧W.heap.size≤B1∧B1≠rb):=⟨by omega,by omega,by omega⟩
  have KM:=hide (hM _ _ w2 hgw (h1.G hgw) (h2.G hgw))
  have HA:=hide h1;have HGW:=hide hgw;have HB1:=hide hb1;have HRB:=hide hb2
  have HN:Hid (nn=ns.length∧nn≤1048576):=⟨hnn,by omega⟩
  have c1:=hb1.cell
  clear h1 h2 hM hl hw2 hB1 hrb hgw hb1 hb2 hnn
  rw[hm] at KM
  have HSD:=hide hS
  clear hm hS
  go_enter Tryz.func22,Tryz.ntmps22
  go_wp2_with (first|(rw[HEW.out];(try rw[HE1.out]);(try rw[HE2.out]);clear HEW e0)|fail)
  try rw[HEW.out]
  try rw[HE1.out]
  try rw[HE2.out]
  refine KM.out.mono ?_
  rintro e w3 ⟨rfl,hg3⟩
  clear c1
  have cG:=(HB1.out.G hg3).cell
  go_wp2_with fail
  clear cG
  go_loopw [17,5,7,8,9] (fun iv ov _ _ _ wr=>∃(i:Nat) (ra:Option Addr) (rn rc:Nat),iv=I i∧ov=.slice ra rn rc∧i≤ns.length∧Sw eRl 66 wr (.slice ra rn rc) (((ns.take i).filter isR).map R)∧Fresh w3 (.slice ra rn rc)∧((ns.take i).find? fun y=>isR y&&!B y)=none∧G w3 wr) (fun iv _ _ _ _ _=>ns.length-(RowKit.intOf iv).toNat)
  case atStart=>exact⟨0,none,0,0,rfl,rfl,Nat.zero_le _,Sw.nil _ _ _,Fresh.nil _,rfl,G.refl _⟩
  case round=>
    rename_i wr hout
    obtain⟨i,ra,rn,rc,rfl,rfl,hik,hso,hfo,hno,hg⟩:=hrel
    have hln:=HN.out
    have hgW:G W wr:=(HGW.out.trans hg3).trans hg
    have hsl:=hso.len_eq
    have hsl2:rn≤i:=by
      rw[←hsl,List.length_map]
      exact Nat.le_trans (List.length_filter_le _ _) (List.length_take_le _ _)
    have cG:=(HB1.out.G (hg3.trans hg)).cell
    by_cases hil:i<ns.length
    · have i1:(i:Int)<(nn:Int):=by omega
      obtain⟨x,hx⟩:∃y,ns[i]?=some y:=⟨_,List.getElem?_eq_getElem hil⟩
      obtain⟨g,o,cp,q⟩:=HA.out.addr (by omega)
      injection q with q1 q2 q3
      subst q1 q3
      obtain⟨cs,⟨pv,hcs,hvp⟩,hr1⟩:=HA.out.at hx
      subst hcs
      obtain⟨va,vc,hvf⟩:=hvp.form
      obtain⟨vn,hvn⟩:∃n,n=x.ps.length:=⟨_,rfl⟩
      rw[←hvn] at hvf
      subst hvf
      have x1:wr.cell? ⟨g,o+i*3,none⟩=some (I x.id):=by have:=rangeAt_G hr1 hgW 0 _ rfl;simpa using this
      have x2:wr.cell? ⟨g,o+i*3+1,none⟩=some (.string x.lb):=by have:=rangeAt_G hr1 hgW 1 _ rfl;simpa using this
      have x3:wr.cell? ⟨g,o+i*3+2,none⟩=some (.slice va vn vc):=by have:=rangeAt_G hr1 hgW 2 _ rfl;simpa using this
      have HW:Hid (wrap64 ((i:Int)+1)=(i:Int)+1):=by show _=_;unfold wrap64;omega
      have HXC:Hid (W.cell? ⟨g,o+i*3,none⟩=some (I x.id)∧True):=⟨by have:=hr1 0 _ rfl;simpa using this,trivial⟩
      obtain⟨w4,hw4⟩:∃w,w=wr.alloc (.cells #[I x.id,.string x.lb,.slice va vn vc] 69):=⟨_,rfl⟩
      obtain⟨B7,hB7⟩:∃b,b=wr.heap.size:=⟨_,rfl⟩
      have hg4:G wr w4:=by rw[hw4];exact(G.refl wr).alloc _
      have hb7:Blk w4 B7 69 [I x.id,.string x.lb,.slice va vn vc]:=by rw[hw4,hB7];exact Blk.new wr [I x.id,.string x.lb,.slice va vn vc] 69
      have HE4:Hid (wr.alloc (.cells #[I x.id,.string x.lb,.slice va vn vc] 69)=w4):=hw4.symm
      have HE7:Hid (wr.heap.size=B7):=hB7.symm
      have HNE7:Hid (B7≠rb):=by have:=(HRB.out.G (hg3.trans hg)).lt;show _≠_;omega
      have HB7:=hide hb7;have HG4:=hide hg4
      have c7:=hb7.cell
      clear hw4 hB7 hg4 hb7
      have KS:=hide (HSD.out x (List.mem_of_getElem? hx) _ w4 (hgW.trans HG4.out) (hvp.G (hgW.trans HG4.out)))
      cases hxr:isR x with
      | false=>
        have eR:(x.lb.toList==[114,117,108,101])=false:=hxr
        have HF:Hid (Sw eRl 66 w4 (.slice ra rn rc) (((ns.take (i+1)).filter isR).map R)∧Fresh w3 (.slice ra rn rc)∧((ns.take (i+1)).find? fun y=>isR y&&!B y)=none∧G w3 w4):=by
          refine⟨?_,hfo,?_,hg.trans HG4.out⟩
          · rw[List.take_add_one,hx,List.filter_append]
            simpa [hxr] using hso.G HG4.out
          · rw[List.take_add_one,hx,List.find?_append,hno]
            simp[hxr]
        have HIL:=hide hil
        clear hik hso hfo hno hg hil hx q2 hvp hr1 hvn hxr hgW hsl hsl2 hln KS
        go_wp2_with (first|(rw[HE4.out];(try rw[HE7.out]);clear HE4)|fail)
        try rw[HE4.out]
        try rw[HE7.out]
        exact⟨⟨i+1,ra,rn,rc,by rw[HW.out];exact srl i,rfl,HIL.out,HF.out.1,HF.out.2.1,HF.out.2.2.1,HF.out.2.2.2⟩,by rw[HW.out];exact sms HIL.out⟩
      | true=>
        have eR:(x.lb.toList==[114,117,108,101])=true:=hxr
        have HX:=hide hx;have HIL:=hide hil;have HNO:=hide hno;have HSO:=hide (And.intro hso hfo);have HGX:=hide (hg.trans HG4.out);have HRN:=hide (And.intro hsl2 hln.2)
        have HNN:Hid (nn=ns.length):=hln.1
        have hxi:=hxr
        have HXR:=hide hxi
        clear hik hso hfo hno hg hil hx q2 hvp hr1 hvn hxr hxi hgW hsl hsl2 hln
        go_wp2_with (first|(rw[HE4.out];(try rw[HE7.out]);clear HE4)|fail)
        try rw[HE4.out]
        try rw[HE7.out]
        refine KS.out.mono ?_
        rintro e w5 ⟨⟨r,rfl,hrR⟩,hg5⟩
        obtain⟨w7,hw7⟩:∃w,w=w5.alloc (.cells #[I r.id,I r.kind,.string r.of,.string r.key,I r.is,.string r.fr,.string r.dst,I r.n] 66):=⟨_,rfl⟩
        obtain⟨B8,hB8⟩:∃b,b=w5.heap.size:=⟨_,rfl⟩
        have hg7:G w5 w7:=by rw[hw7];exact(G.refl w5).alloc _
        have hb8:Blk w7 B8 66 [I r.id,I r.kind,.string r.of,.string r.key,I r.is,.string r.fr,.string r.dst,I r.n]:=by rw[hw7,hB8];exact Blk.new w5 [I r.id,I r.kind,.string r.of,.string r.key,I r.is,.string r.fr,.string r.dst,I r.n] 66
        have HE5:Hid (w5.alloc (.cells #[I r.id,I r.kind,.string r.of,.string r.key,I r.is,.string r.fr,.string r.dst,I r.n] 66)=w7):=hw7.symm
        have HE8:Hid (w5.heap.size=B8):=hB8.symm
        have c8:=hb8.cell
        have hg37:=HGX.out.trans (hg5.trans hg7)
        have HG37:=hide hg37
        have HG7:=hide ((HGW.out.trans hg3).trans hg37)
        have HRB7:=hide (HRB.out.G (hg3.trans hg37))
        have HB17:=hide (HB1.out.G (hg3.trans hg37))
        have HB77:=hide ((HB7.out.G hg5).G hg7)
        have c77:=HB77.out.cell
        have HS7:=hide (And.intro (HSO.out.1.G (HG4.out.trans (hg5.trans hg7))) HSO.out.2)
        have HRR:=hide hrR
        clear hw7 hB8 hg7 hb8 hg37 hg5 hrR KS x1 x2 x3 cG c7
        cases hbx:B x with
        | true=>
          have HR:=HRR.out hbx
          subst HR
          have hs7:=HS7.out.1
          have hmx:(1048577:Nat)≤maxLen:=of_decide_eq_true (by kernel_rfl)
          have hsl:=hs7.len_eq
          have hrn:=HRN.out
          obtain⟨i0,hi0,hz0,hz1,hz2⟩:=info_Rl
          obtain⟨a5,c5,w9,r1,r2,r3,r4,r5⟩:=push (P:=Tryz.prog) (tr:=57) i0 _ 96 Tryz.underlying57 hi0 hz0 hz1 hz2 rfl (by decide) hs7 (R x) HG37.out HS7.out.2 (by rw[hsl];omega) (by rw[hsl];omega)
          rw[hsl] at r1 r2 r4
          have HR:=hide r1
          have HF:Hid (Sw eRl 66 w9 (.slice a5 (rn+1) c5) (((ns.take (i+1)).filter isR).map R)∧Fresh w3 (.slice a5 (rn+1) c5)∧((ns.take (i+1)).find? fun y=>isR y&&!B y)=none∧G w3 w9):=by
            refine⟨?_,r4,?_,?_⟩
            · rw[List.take_add_one,HX.out,List.filter_append,List.map_append]
              simpa [HXR.out] using r2
            · rw[List.take_add_one,HX.out,List.find?_append,HNO.out]
              simp[hbx]
            · exact r3
          clear hs7 hmx hsl hrn hi0 hz0 hz1 hz2 r1 r2 r3 r4 r5 hbx
          go_wp2_with (first|(at_builtin;refine wpList_append_run rfl _ _ 57 rfl (.slice ra rn rc) (.slice (some ⟨w7.heap.size,0,none⟩) 1 1) rfl rfl HR.out ?_)|(rw[HE5.out];(try rw[HE8.out]);clear HE5)|fail)
          exact⟨⟨i+1,a5,rn+1,c5,by rw[HW.out];exact srl i,rfl,HIL.out,HF.out.1,HF.out.2.1,HF.out.2.2.1,HF.out.2.2.2⟩,by rw[HW.out];exact sms HIL.out⟩
        | false=>
          have HF:Hid ((ns.find? fun y=>isR y&&!B y)=some x):=find_take _ ns i x HX.out (by simp[HXR.out,hbx]) HNO.out
          clear hbx
          go_wp2_with (first|(rw[HE5.out];(try rw[HE8.out]);clear HE5)|fail)
          try rw[HE5.out]
          try rw[HE8.out]
          refine wp_region_noPanic ?_
          refine wp_region_held_drew (S:=(fun V=>(∀t,V.cell? ⟨B7,t,none⟩=([I x.id,.string x.lb,.slice va vn vc]:List Value)[t]?)∧G W V)) (by kernel_rfl) (⟨(HB77.out.G (G.refl _).drew).cell,HG7.out.drew⟩) (fun hHeld=>?_)
          refine wpAnyH_take (i:=0) (v:=?_) rfl (by kernel_rfl) (by kernel_rfl) (by kernel_rfl) (fun _ _ _ h=>h) (Or.inl ⟨by rfl,?_⟩) hHeld ?_
          rotate_left 1
          · (intro w hSw;(try dsimp only at hSw);go_simp;try with_reducible rfl)
          try simp only[Act.put,List.getElem_toArray,List.getElem_cons_zero,List.setIfInBounds_toArray,List.set_cons_zero,List.set_cons_succ]
          refine wpAnyH_take (i:=1) (v:=?_) rfl (by kernel_rfl) (by kernel_rfl) (by kernel_rfl) (fun _ _ _ h=>h) (Or.inl ⟨by rfl,?_⟩) hHeld ?_
          rotate_left 1
          · (intro w hSw;obtain⟨k1,-⟩:=hSw;go_simp;try with_reducible rfl)
          try simp only[Act.put,List.getElem_toArray,List.getElem_cons_zero,List.getElem_cons_succ,List.setIfInBounds_toArray,List.set_cons_zero,List.set_cons_succ]
          refine wpAnyH_take (i:=2) (v:=?_) rfl (by kernel_rfl) (by kernel_rfl) (by kernel_rfl) (fun _ _ _ h=>h) (Or.inl ⟨by rfl,?_⟩) hHeld ?_
          rotate_left 1
          · (intro w hSw;(try dsimp only at hSw);go_simp;try with_reducible rfl)
          try simp only[Act.put,List.getElem_toArray,List.getElem_cons_zero,List.getElem_cons_succ,List.setIfInBounds_toArray,List.set_cons_zero,List.set_cons_succ]
          refine wpAnyH_take (i:=3) (v:=?_) rfl (by kernel_rfl) (by kernel_rfl) (by kernel_rfl) (fun _ _ _ h=>h) (Or.inl ⟨by rfl,?_⟩) hHeld ?_
          rotate_left 1
          · (intro w hSw;(try dsimp only at hSw);go_simp;try with_reducible rfl)
          try simp only[Act.put,List.getElem_toArray,List.getElem_cons_zero,List.getElem_cons_succ,List.setIfInBounds_toArray,List.set_cons_zero,List.set_cons_succ]
          refine wpAnyH_ready (rs:=[4]) (by kernel_rfl) (by simp) (AllReadyH.cons rfl (fun K hK=>?_) AllReadyH.nil)
          clear hHeld
          have hrb9:=(HRB7.out.G (G.refl w7).drew)
          have hg9:=HG7.out.drew
          have HTH:Hid (w7.drew.there rb 0 3):=fun j hj=>⟨by rw[hrb9.cell,List.getElem?_eq_getElem (by simp;omega)];rfl,hrb9.frozen _⟩
          have HC9:=hide (((hrb9.set 0 (I 0)).set 1 (I x.id)).set 2 (I 0))
          have HG9:Hid (G W (((w7.drew.setCell ⟨rb,0,none⟩ (I 0)).setCell ⟨rb,1,none⟩ (I x.id)).setCell ⟨rb,2,none⟩ (I 0))):=(((hg9.setCell HLO.out.1 (I 0)).setCell HLO.out.1 (I x.id)).setCell HLO.out.1 (I 0))
          have HS9:Hid (∀t,(((w7.drew.setCell ⟨rb,0,none⟩ (I 0)).setCell ⟨rb,1,none⟩ (I x.id)).setCell ⟨rb,2,none⟩ (I 0)).cell? ⟨B7,t,none⟩=([I x.id,.string x.lb,.slice va vn vc]:List Value)[t]?):=(((((((HB77.out.G (G.refl w7).drew).off (b:=rb) (o:=0) (v:=I 0) HNE7.out)).off (b:=rb) (o:=1) (v:=I x.id) HNE7.out)).off (b:=rb) (o:=2) (v:=I 0) HNE7.out)).cell
          clear hrb9 hg9
          refine(if_pos rfl).mpr ?_
          refine wp_store_mid 59 _ _ rfl rb 0 #[I 0,I x.id,I 0] rfl rfl HTH.out (by kernel_rfl) (all_oneCell_toArray (cs:=[I 0,I x.id,I 0]) (fun v hv=>one8 (by rfl) hv)) ?_
          refine hK.out _ _ (⟨HS9.out,HG9.out⟩) (fun hHeld=>?_)
          clear hK K
          try simp only[Act.put,List.getElem_toArray,List.getElem_cons_zero,List.getElem_cons_succ]
          refine wpAnyH_take (i:=5) (v:=?_) rfl (by kernel_rfl) (by kernel_rfl) (by kernel_rfl) (fun _ _ _ h=>h) (Or.inl ⟨by rfl,?_⟩) hHeld ?_
          rotate_left 1
          · (intro w hSw;(try dsimp only at hSw);go_simp;try with_reducible rfl)
          try simp only[Act.put,List.getElem_toArray,List.getElem_cons_zero,List.getElem_cons_succ,List.setIfInBounds_toArray,List.set_cons_zero,List.set_cons_succ]
          refine wpAnyH_done (by kernel_rfl) ?_ _
          refine NoPanic.normal ?_
          go_wp2_with fail
          exact bodyPost_ret_by (v:=.tuple #[.slice none 0 0,.agg #[I 0,I x.id,I 0],I 181]) (retRd _ _ rb _ _ _ rfl rfl rfl HC9.out rfl) rfl ⟨.inl ⟨x,HF.out,rfl⟩,HG9.out⟩
    · have i1:¬(i:Int)<(nn:Int):=by omega
      have htk:ns.take i=ns:=List.take_of_length_le (by omega)
      rw[htk] at hso hno
      have hg9:=hgW
      have hrb9:=HRB.out.G (hg3.trans hg)
      have HF:Hid (Sw eRl 66 (((wr.setCell ⟨rb,0,none⟩ (I 0)).setCell ⟨rb,1,none⟩ (I 0)).setCell ⟨rb,2,none⟩ (I 0)) (.slice ra rn rc) ((ns.filter isR).map R)∧Fresh W (.slice ra rn rc)∧(ns.find? fun y=>isR y&&!B y)=none):=⟨hso.fx (((Fx.set (X:=[59]) (M:=[]) hrb9 (by simp) (o:=0) (v:=I 0)).trans (Fx.set (X:=[59]) (M:=[]) (hrb9.set 0 (I 0)) (by simp) (o:=1) (v:=I 0))).trans (Fx.set (X:=[59]) (M:=[]) ((hrb9.set 0 (I 0)).set 1 (I 0)) (by simp) (o:=2) (v:=I 0))) (by decide),hfo.old (HGW.out.trans hg3),hno⟩
      have c9:=hrb9.cell;have z9:=hrb9.frozen
      have HC9:=hide (((hrb9.set 0 (I 0)).set 1 (I 0)).set 2 (I 0))
      have HG9:Hid (G W (((wr.setCell ⟨rb,0,none⟩ (I 0)).setCell ⟨rb,1,none⟩ (I 0)).setCell ⟨rb,2,none⟩ (I 0))):=(((hg9.setCell HLO.out.1 (I 0)).setCell HLO.out.1 (I 0)).setCell HLO.out.1 (I 0))
      clear hrb9 hg9
      clear hik hso hfo hno hg hil hgW hsl hsl2 hln htk
      go_wp2_with fail
      exact bodyPost_ret_by (v:=.tuple #[.slice ra rn rc,.agg #[I 0,I 0,I 0],I 0]) (retRd _ _ rb _ _ _ rfl rfl rfl HC9.out rfl) rfl ⟨.inr ⟨HF.out.2.2,ra,rn,rc,rfl,HF.out.1,HF.out.2.1⟩,HG9.out⟩
set_option maxRecDepth 100000 in
set_option maxHeartbeats 4000000 in
theorem dread_no(ns:List Nd)(es:List Ed)(nv ev:Value)(W:World)(h1:Row relN W nv ns)(h2:Row relE W ev es)(hl:ns.length≤1048576)
    (hM:∀(u v:Value) (V:World),G W V→Row relN V u ns→Row relE V v es→Calls Tryz.prog 12 #[.agg #[u,v]] V fun e W'=>e=.returned (.bool (mayB ns es))∧G V W') (hm:mayB ns es=false):Calls Tryz.prog 23 #[.agg #[nv,ev]] W fun e W'=>e=.returned (.tuple #[.slice none 0 0,.agg #[I 0,I 0,I 0],I 122])∧G W W':=by
  obtain⟨na,nc,rfl⟩:=h1.form
  obtain⟨nn,hnn⟩:∃n,n=ns.length:=⟨_,rfl⟩
  rw[←hnn] at h1⊢
  obtain⟨w2,hw2⟩:∃w,w=((W.alloc (.cells #[.slice na nn nc,ev] 25)).alloc (.cells #[I 0,I 0,I 0] 59)):=⟨_,rfl⟩
  obtain⟨B1,hB1⟩:∃b,b=W.heap.size:=⟨_,rfl⟩
  obtain⟨rb,hrb⟩:∃b,b=B1+1:=⟨_,rfl⟩
  have hgw:G W w2:=by rw[hw2];exact((G.refl W).alloc _).alloc _
  have hb1:Blk w2 B1 25 [.slice na nn nc,ev]:=by rw[hw2,hB1];exact(Blk.new W [.slice na nn nc,ev] 25).G ((G.refl _).alloc _)
  have hb2:Blk w2 rb 59 [I 0,I 0,I 0]:=by
    have:=Blk.new (W.alloc (.cells #[.slice na nn nc,ev] 25)) [I 0,I 0,I 0] 59
    rw[hw2,hrb,hB1]
    simpa using this
  have e0:=((Blk.new W [.slice na nn nc,ev] 25).G ((G.refl _).alloc (.cells #[I 0,I 0,I 0] 59))).cell
  have HEW:Hid (((W.alloc (.cells #[.slice na nn nc,ev] 25)).alloc (.cells #[I 0,I 0,I 0] 59))=w2):=hw2.symm
  have HE1:Hid (W.heap.size=B1):=hB1.symm
  have HE2:Hid (B1+1=rb):=hrb.symm
  have HLO:Hid (W.heap.size≤rb∧W.heap.size≤B1∧B1≠rb):=⟨by omega,by omega,by omega⟩
  have KM:=hide (hM _ _ w2 hgw (h1.G hgw) (h2.G hgw))
  have HA:=hide h1;have HGW:=hide hgw;have HB1:=hide hb1;have HRB:=hide hb2
  have HN:Hid (nn=ns.length∧nn≤1048576):=⟨hnn,by omega⟩
  have c1:=hb1.cell
  clear h1 h2 hM hl hw2 hB1 hrb hgw hb1 hb2 hnn
  rw[hm] at KM
  clear hm
  go_enter Tryz.func23,Tryz.ntmps23
  go_wp2_with (first|(rw[HEW.out];(try rw[HE1.out]);(try rw[HE2.out]);clear HEW e0)|fail)
  try rw[HEW.out]
  try rw[HE1.out]
  try rw[HE2.out]
  refine KM.out.mono ?_
  rintro e w3 ⟨rfl,hg3⟩
  clear c1
  have hg9:=HGW.out.trans hg3
  have hrb9:=HRB.out.G hg3
  have c9:=hrb9.cell;have z9:=hrb9.frozen
  have HC9:=hide (((hrb9.set 0 (I 0)).set 1 (I 0)).set 2 (I 0))
  have HG9:Hid (G W (((w3.setCell ⟨rb,0,none⟩ (I 0)).setCell ⟨rb,1,none⟩ (I 0)).setCell ⟨rb,2,none⟩ (I 0))):=(((hg9.setCell HLO.out.1 (I 0)).setCell HLO.out.1 (I 0)).setCell HLO.out.1 (I 0))
  clear hrb9 hg9
  go_wp2_with fail
  exact bodyPost_ret_by (v:=.tuple #[.slice none 0 0,.agg #[I 0,I 0,I 0],I 122]) (retDr _ _ rb _ _ _ rfl rfl rfl HC9.out rfl) rfl ⟨rfl,HG9.out⟩
set_option maxRecDepth 100000 in
set_option maxHeartbeats 4000000 in
theorem dread_yes(B:Nd→Bool)(R:Nd→Rl)(ns:List Nd)(es:List Ed)(nv ev:Value)(W:World)(h1:Row relN W nv ns)(h2:Row relE W ev es)(hl:ns.length≤1048576)
    (hM:∀(u v:Value) (V:World),G W V→Row relN V u ns→Row relE V v es→Calls Tryz.prog 12 #[.agg #[u,v]] V fun e W'=>e=.returned (.bool (mayB ns es))∧G V W') (hm:mayB ns es=true)
    (hS:∀x∈ns,∀(pv:Value) (V:World),G W V→Row eP.rel V pv x.ps→Calls Tryz.prog 68 #[.agg #[I x.id,.string x.lb,pv]] V fun e W'=>(∃r:Rl,e=.returned (.tuple #[.agg #[I r.id,I r.kind,.string r.of,.string r.key,I r.is,.string r.fr,.string r.dst,I r.n],.bool (B x)])∧(B x=true→r=R x))∧G V W') :
    Calls Tryz.prog 23 #[.agg #[nv,ev]] W fun e W'=>ReadE ns B R W W' e∧G W W':=by
  obtain⟨na,nc,rfl⟩:=h1.form
  obtain⟨nn,hnn⟩:∃n,n=ns.length:=⟨_,rfl⟩
  rw[←hnn] at h1⊢
  obtain⟨w2,hw2⟩:∃w,w=((W.alloc (.cells #[.slice na nn nc,ev] 25)).alloc (.cells #[I 0,I 0,I 0] 59)):=⟨_,rfl⟩
  obtain⟨B1,hB1⟩:∃b,b=W.heap.size:=⟨_,rfl⟩
  obtain⟨rb,hrb⟩:∃b,b=B1+1:=⟨_,rfl⟩
  have hgw:G W w2:=by rw[hw2];exact((G.refl W).alloc _).alloc _
  have hb1:Blk w2 B1 25 [.slice na nn nc,ev]:=by rw[hw2,hB1];exact(Blk.new W [.slice na nn nc,ev] 25).G ((G.refl _).alloc _)
  have hb2:Blk w2 rb 59 [I 0,I 0,I 0]:=by
    have:=Blk.new (W.alloc (.cells #[.slice na nn nc,ev] 25)) [I 0,I 0,I 0] 59
    rw[hw2,hrb,hB1]
    simpa using this
  have e0:=((Blk.new W [.slice na nn nc,ev] 25).G ((G.refl _).alloc (.cells #[I 0,I 0,I 0] 59))).cell
  have HEW:Hid (((W.alloc (.cells #[.slice na nn nc,ev] 25)).alloc (.cells #[I 0,I 0,I 0] 59))=w2):=hw2.symm
  have HE1:Hid (W.heap.size=B1):=hB1.symm
  have HE2:Hid (B1+1=rb):=hrb.symm
  have HLO:Hid (W.heap.size≤rb∧W.heap.size≤B1∧B1≠rb):=⟨by omega,by omega,by omega⟩
  have KM:=hide (hM _ _ w2 hgw (h1.G hgw) (h2.G hgw))
  have HA:=hide h1;have HGW:=hide hgw;have HB1:=hide hb1;have HRB:=hide hb2
  have HN:Hid (nn=ns.length∧nn≤1048576):=⟨hnn,by omega⟩
  have c1:=hb1.cell
  clear h1 h2 hM hl hw2 hB1 hrb hgw hb1 hb2 hnn
  rw[hm] at KM
  have HSD:=hide hS
  clear hm hS
  go_enter Tryz.func23,Tryz.ntmps23
  go_wp2_with (first|(rw[HEW.out];(try rw[HE1.out]);(try rw[HE2.out]);clear HEW e0)|fail)
  try rw[HEW.out]
  try rw[HE1.out]
  try rw[HE2.out]
  refine KM.out.mono ?_
  rintro e w3 ⟨rfl,hg3⟩
  clear c1
  have cG:=(HB1.out.G hg3).cell
  go_wp2_with fail
  clear cG
  go_loopw [6,5,7,8] (fun iv ov _ _ wr=>∃(i:Nat) (ra:Option Addr) (rn rc:Nat),iv=I i∧ov=.slice ra rn rc∧i≤ns.length∧Sw eRl 66 wr (.slice ra rn rc) (((ns.take i).filter isR).map R)∧Fresh w3 (.slice ra rn rc)∧((ns.take i).find? fun y=>isR y&&!B y)=none∧G w3 wr) (fun iv _ _ _ _=>ns.length-(RowKit.intOf iv).toNat)
  case atStart=>exact⟨0,none,0,0,rfl,rfl,Nat.zero_le _,Sw.nil _ _ _,Fresh.nil _,rfl,G.refl _⟩
  case round=>
    rename_i wr hout
    obtain⟨i,ra,rn,rc,rfl,rfl,hik,hso,hfo,hno,hg⟩:=hrel
    have hln:=HN.out
    have hgW:G W wr:=(HGW.out.trans hg3).trans hg
    have hsl:=hso.len_eq
    have hsl2:rn≤i:=by
      rw[←hsl,List.length_map]
      exact Nat.le_trans (List.length_filter_le _ _) (List.length_take_le _ _)
    have cG:=(HB1.out.G (hg3.trans hg)).cell
    by_cases hil:i<ns.length
    · have i1:(i:Int)<(nn:Int):=by omega
      obtain⟨x,hx⟩:∃y,ns[i]?=some y:=⟨_,List.getElem?_eq_getElem hil⟩
      obtain⟨g,o,cp,q⟩:=HA.out.addr (by omega)
      injection q with q1 q2 q3
      subst q1 q3
      obtain⟨cs,⟨pv,hcs,hvp⟩,hr1⟩:=HA.out.at hx
      subst hcs
      obtain⟨va,vc,hvf⟩:=hvp.form
      obtain⟨vn,hvn⟩:∃n,n=x.ps.length:=⟨_,rfl⟩
      rw[←hvn] at hvf
      subst hvf
      have x1:wr.cell? ⟨g,o+i*3,none⟩=some (I x.id):=by have:=rangeAt_G hr1 hgW 0 _ rfl;simpa using this
      have x2:wr.cell? ⟨g,o+i*3+1,none⟩=some (.string x.lb):=by have:=rangeAt_G hr1 hgW 1 _ rfl;simpa using this
      have x3:wr.cell? ⟨g,o+i*3+2,none⟩=some (.slice va vn vc):=by have:=rangeAt_G hr1 hgW 2 _ rfl;simpa using this
      have HW:Hid (wrap64 ((i:Int)+1)=(i:Int)+1):=by show _=_;unfold wrap64;omega
      have HXC:Hid (W.cell? ⟨g,o+i*3,none⟩=some (I x.id)∧True):=⟨by have:=hr1 0 _ rfl;simpa using this,trivial⟩

      have KS:=hide (HSD.out x (List.mem_of_getElem? hx) _ wr (hgW.trans (G.refl wr)) (hvp.G (hgW.trans (G.refl wr))))
      cases hxr:isR x with
      | false=>
        have eR:(x.lb.toList==[114,117,108,101])=false:=hxr
        have HF:Hid (Sw eRl 66 wr (.slice ra rn rc) (((ns.take (i+1)).filter isR).map R)∧Fresh w3 (.slice ra rn rc)∧((ns.take (i+1)).find? fun y=>isR y&&!B y)=none∧G w3 wr):=by
          refine⟨?_,hfo,?_,hg.trans (G.refl wr)⟩
          · rw[List.take_add_one,hx,List.filter_append]
            simpa [hxr] using hso.G (G.refl wr)
          · rw[List.take_add_one,hx,List.find?_append,hno]
            simp[hxr]
        have HIL:=hide hil
        clear hik hso hfo hno hg hil hx q2 hvp hr1 hvn hxr hgW hsl hsl2 hln KS
        go_wp2_with fail
        exact⟨⟨i+1,ra,rn,rc,by rw[HW.out];exact srl i,rfl,HIL.out,HF.out.1,HF.out.2.1,HF.out.2.2.1,HF.out.2.2.2⟩,by rw[HW.out];exact sms HIL.out⟩
      | true=>
        have eR:(x.lb.toList==[114,117,108,101])=true:=hxr
        have HX:=hide hx;have HIL:=hide hil;have HNO:=hide hno;have HSO:=hide (And.intro hso hfo);have HGX:=hide (hg.trans (G.refl wr));have HRN:=hide (And.intro hsl2 hln.2)
        have HNN:Hid (nn=ns.length):=hln.1
        have hxi:=hxr
        have HXR:=hide hxi
        clear hik hso hfo hno hg hil hx q2 hvp hr1 hvn hxr hxi hgW hsl hsl2 hln
        go_wp2_with fail
        refine KS.out.mono ?_
        rintro e w5 ⟨⟨r,rfl,hrR⟩,hg5⟩
        obtain⟨w7,hw7⟩:∃w,w=w5.alloc (.cells #[I r.id,I r.kind,.string r.of,.string r.key,I r.is,.string r.fr,.string r.dst,I r.n] 66):=⟨_,rfl⟩
        obtain⟨B8,hB8⟩:∃b,b=w5.heap.size:=⟨_,rfl⟩
        have hg7:G w5 w7:=by rw[hw7];exact(G.refl w5).alloc _
        have hb8:Blk w7 B8 66 [I r.id,I r.kind,.string r.of,.string r.key,I r.is,.string r.fr,.string r.dst,I r.n]:=by rw[hw7,hB8];exact Blk.new w5 [I r.id,I r.kind,.string r.of,.string r.key,I r.is,.string r.fr,.string r.dst,I r.n] 66
        have HE5:Hid (w5.alloc (.cells #[I r.id,I r.kind,.string r.of,.string r.key,I r.is,.string r.fr,.string r.dst,I r.n] 66)=w7):=hw7.symm
        have HE8:Hid (w5.heap.size=B8):=hB8.symm
        have c8:=hb8.cell
        have hg37:=HGX.out.trans (hg5.trans hg7)
        have HG37:=hide hg37
        have HG7:=hide ((HGW.out.trans hg3).trans hg37)
        have HRB7:=hide (HRB.out.G (hg3.trans hg37))
        have HB17:=hide (HB1.out.G (hg3.trans hg37))
        have c17:=HB17.out.cell
        have HS7:=hide (And.intro (HSO.out.1.G ((G.refl wr).trans (hg5.trans hg7))) HSO.out.2)
        have HRR:=hide hrR
        clear hw7 hB8 hg7 hb8 hg37 hg5 hrR KS x1 x2 x3 cG 
        cases hbx:B x with
        | true=>
          have HR:=HRR.out hbx
          subst HR
          have hs7:=HS7.out.1
          have hmx:(1048577:Nat)≤maxLen:=of_decide_eq_true (by kernel_rfl)
          have hsl:=hs7.len_eq
          have hrn:=HRN.out
          obtain⟨i0,hi0,hz0,hz1,hz2⟩:=info_Rl
          obtain⟨a5,c5,w9,r1,r2,r3,r4,r5⟩:=push (P:=Tryz.prog) (tr:=57) i0 _ 96 Tryz.underlying57 hi0 hz0 hz1 hz2 rfl (by decide) hs7 (R x) HG37.out HS7.out.2 (by rw[hsl];omega) (by rw[hsl];omega)
          rw[hsl] at r1 r2 r4
          have HR:=hide r1
          have HF:Hid (Sw eRl 66 w9 (.slice a5 (rn+1) c5) (((ns.take (i+1)).filter isR).map R)∧Fresh w3 (.slice a5 (rn+1) c5)∧((ns.take (i+1)).find? fun y=>isR y&&!B y)=none∧G w3 w9):=by
            refine⟨?_,r4,?_,?_⟩
            · rw[List.take_add_one,HX.out,List.filter_append,List.map_append]
              simpa [HXR.out] using r2
            · rw[List.take_add_one,HX.out,List.find?_append,HNO.out]
              simp[hbx]
            · exact r3
          clear hs7 hmx hsl hrn hi0 hz0 hz1 hz2 r1 r2 r3 r4 r5 hbx
          go_wp2_with (first|(at_builtin;refine wpList_append_run rfl _ _ 57 rfl (.slice ra rn rc) (.slice (some ⟨w7.heap.size,0,none⟩) 1 1) rfl rfl HR.out ?_)|(rw[HE5.out];(try rw[HE8.out]);clear HE5)|fail)
          exact⟨⟨i+1,a5,rn+1,c5,by rw[HW.out];exact srl i,rfl,HIL.out,HF.out.1,HF.out.2.1,HF.out.2.2.1,HF.out.2.2.2⟩,by rw[HW.out];exact sms HIL.out⟩
        | false=>
          have HF:Hid ((ns.find? fun y=>isR y&&!B y)=some x):=find_take _ ns i x HX.out (by simp[HXR.out,hbx]) HNO.out
          clear hbx
          go_wp2_with (first|(rw[HE5.out];(try rw[HE8.out]);clear HE5)|fail)
          try rw[HE5.out]
          try rw[HE8.out]
          refine wp_region_noPanic ?_
          refine wp_region_held_drew (S:=(fun V=>(∀t,V.cell? ⟨B1,t,none⟩=([.slice (some ⟨g,o,none⟩) nn nc,ev]:List Value)[t]?)∧V.cell? ⟨g,o+i*3,none⟩=some (I x.id)∧G W V)) (by kernel_rfl) (⟨(HB17.out.G (G.refl _).drew).cell,cell_G HXC.out.1 HG7.out.drew,HG7.out.drew⟩) (fun hHeld=>?_)
          refine wpAnyH_take (i:=0) (v:=?_) rfl (by kernel_rfl) (by kernel_rfl) (by kernel_rfl) (fun _ _ _ h=>h) (Or.inl ⟨by rfl,?_⟩) hHeld ?_
          rotate_left 1
          · (intro w hSw;(try dsimp only at hSw);go_simp;try with_reducible rfl)
          try simp only[Act.put,List.getElem_toArray,List.getElem_cons_zero,List.setIfInBounds_toArray,List.set_cons_zero,List.set_cons_succ]
          refine wpAnyH_take (i:=1) (v:=?_) rfl (by kernel_rfl) (by kernel_rfl) (by kernel_rfl) (fun _ _ _ h=>h) (Or.inl ⟨by rfl,?_⟩) hHeld ?_
          rotate_left 1
          · (intro w hSw;obtain⟨k1,k2,-⟩:=hSw;go_simp;try with_reducible rfl)
          try simp only[Act.put,List.getElem_toArray,List.getElem_cons_zero,List.getElem_cons_succ,List.setIfInBounds_toArray,List.set_cons_zero,List.set_cons_succ]
          refine wpAnyH_take (i:=2) (v:=?_) rfl (by kernel_rfl) (by kernel_rfl) (by kernel_rfl) (fun _ _ _ h=>h) (Or.inl ⟨by rfl,?_⟩) hHeld ?_
          rotate_left 1
          · (intro w hSw;(try dsimp only at hSw);go_simp;try with_reducible rfl)
          try simp only[Act.put,List.getElem_toArray,List.getElem_cons_zero,List.getElem_cons_succ,List.setIfInBounds_toArray,List.set_cons_zero,List.set_cons_succ]
          refine wpAnyH_take (i:=3) (v:=?_) rfl (by kernel_rfl) (by kernel_rfl) (by kernel_rfl) (fun _ _ _ h=>h) (Or.inl ⟨by rfl,?_⟩) hHeld ?_
          rotate_left 1
          · (intro w hSw;obtain⟨k1,k2,-⟩:=hSw;go_simp;try with_reducible rfl)
          try simp only[Act.put,List.getElem_toArray,List.getElem_cons_zero,List.getElem_cons_succ,List.setIfInBounds_toArray,List.set_cons_zero,List.set_cons_succ]
          refine wpAnyH_take (i:=4) (v:=?_) rfl (by kernel_rfl) (by kernel_rfl) (by kernel_rfl) (fun _ _ _ h=>h) (Or.inl ⟨by rfl,?_⟩) hHeld ?_
          rotate_left 1
          · (intro w hSw;(try dsimp only at hSw);go_simp;try with_reducible rfl)
          try simp only[Act.put,List.getElem_toArray,List.getElem_cons_zero,List.getElem_cons_succ,List.setIfInBounds_toArray,List.set_cons_zero,List.set_cons_succ]
          refine wpAnyH_take (i:=5) (v:=?_) rfl (by kernel_rfl) (by kernel_rfl) (by kernel_rfl) (fun _ _ _ h=>h) (Or.inl ⟨by rfl,?_⟩) hHeld ?_
          rotate_left 1
          · (intro w hSw;obtain⟨k1,k2,-⟩:=hSw;go_simp;try with_reducible rfl)
          try simp only[Act.put,List.getElem_toArray,List.getElem_cons_zero,List.getElem_cons_succ,List.setIfInBounds_toArray,List.set_cons_zero,List.set_cons_succ]
          refine wpAnyH_take (i:=6) (v:=?_) rfl (by kernel_rfl) (by kernel_rfl) (by kernel_rfl) (fun _ _ _ h=>h) (Or.inl ⟨by rfl,?_⟩) hHeld ?_
          rotate_left 1
          · (intro w hSw;(try dsimp only at hSw);go_simp;try with_reducible rfl)
          try simp only[Act.put,List.getElem_toArray,List.getElem_cons_zero,List.getElem_cons_succ,List.setIfInBounds_toArray,List.set_cons_zero,List.set_cons_succ]
          refine wpAnyH_take (i:=7) (v:=?_) rfl (by kernel_rfl) (by kernel_rfl) (by kernel_rfl) (fun _ _ _ h=>h) (Or.inl ⟨by rfl,?_⟩) hHeld ?_
          rotate_left 1
          · (intro w hSw;(try dsimp only at hSw);go_simp;try with_reducible rfl)
          try simp only[Act.put,List.getElem_toArray,List.getElem_cons_zero,List.getElem_cons_succ,List.setIfInBounds_toArray,List.set_cons_zero,List.set_cons_succ]
          refine wpAnyH_ready (rs:=[8]) (by kernel_rfl) (by simp) (AllReadyH.cons rfl (fun K hK=>?_) AllReadyH.nil)
          clear hHeld
          have hrb9:=(HRB7.out.G (G.refl w7).drew)
          have hg9:=HG7.out.drew
          have HTH:Hid (w7.drew.there rb 0 3):=fun j hj=>⟨by rw[hrb9.cell,List.getElem?_eq_getElem (by simp;omega)];rfl,hrb9.frozen _⟩
          have HC9:=hide (((hrb9.set 0 (I 0)).set 1 (I x.id)).set 2 (I 0))
          have HG9:Hid (G W (((w7.drew.setCell ⟨rb,0,none⟩ (I 0)).setCell ⟨rb,1,none⟩ (I x.id)).setCell ⟨rb,2,none⟩ (I 0))):=(((hg9.setCell HLO.out.1 (I 0)).setCell HLO.out.1 (I x.id)).setCell HLO.out.1 (I 0))
          have HS9:Hid ((∀t,(((w7.drew.setCell ⟨rb,0,none⟩ (I 0)).setCell ⟨rb,1,none⟩ (I x.id)).setCell ⟨rb,2,none⟩ (I 0)).cell? ⟨B1,t,none⟩=([.slice (some ⟨g,o,none⟩) nn nc,ev]:List Value)[t]?)∧(((w7.drew.setCell ⟨rb,0,none⟩ (I 0)).setCell ⟨rb,1,none⟩ (I x.id)).setCell ⟨rb,2,none⟩ (I 0)).cell? ⟨g,o+i*3,none⟩=some (I x.id)):=⟨(((((((HB17.out.G (G.refl w7).drew).off (b:=rb) (o:=0) (v:=I 0) HLO.out.2.2)).off (b:=rb) (o:=1) (v:=I x.id) HLO.out.2.2)).off (b:=rb) (o:=2) (v:=I 0) HLO.out.2.2)).cell,cell_G (HXC.out.1) (((((G.refl W).chg (F:=fun _=>False)).G (fun _ q=>q.elim)).trans HG9.out))⟩
          clear hrb9 hg9
          refine(if_pos rfl).mpr ?_
          refine wp_store_mid 59 _ _ rfl rb 0 #[I 0,I x.id,I 0] rfl rfl HTH.out (by kernel_rfl) (all_oneCell_toArray (cs:=[I 0,I x.id,I 0]) (fun v hv=>one8 (by rfl) hv)) ?_
          refine hK.out _ _ (⟨HS9.out.1,HS9.out.2,HG9.out⟩) (fun hHeld=>?_)
          clear hK K
          try simp only[Act.put,List.getElem_toArray,List.getElem_cons_zero,List.getElem_cons_succ]
          refine wpAnyH_take (i:=9) (v:=?_) rfl (by kernel_rfl) (by kernel_rfl) (by kernel_rfl) (fun _ _ _ h=>h) (Or.inl ⟨by rfl,?_⟩) hHeld ?_
          rotate_left 1
          · (intro w hSw;(try dsimp only at hSw);go_simp;try with_reducible rfl)
          try simp only[Act.put,List.getElem_toArray,List.getElem_cons_zero,List.getElem_cons_succ,List.setIfInBounds_toArray,List.set_cons_zero,List.set_cons_succ]
          refine wpAnyH_done (by kernel_rfl) ?_ _
          refine NoPanic.normal ?_
          go_wp2_with fail
          exact bodyPost_ret_by (v:=.tuple #[.slice none 0 0,.agg #[I 0,I x.id,I 0],I 181]) (retDr _ _ rb _ _ _ rfl rfl rfl HC9.out rfl) rfl ⟨.inl ⟨x,HF.out,rfl⟩,HG9.out⟩
    · have i1:¬(i:Int)<(nn:Int):=by omega
      have htk:ns.take i=ns:=List.take_of_length_le (by omega)
      rw[htk] at hso hno
      have hg9:=hgW
      have hrb9:=HRB.out.G (hg3.trans hg)
      have HF:Hid (Sw eRl 66 (((wr.setCell ⟨rb,0,none⟩ (I 0)).setCell ⟨rb,1,none⟩ (I 0)).setCell ⟨rb,2,none⟩ (I 0)) (.slice ra rn rc) ((ns.filter isR).map R)∧Fresh W (.slice ra rn rc)∧(ns.find? fun y=>isR y&&!B y)=none):=⟨hso.fx (((Fx.set (X:=[59]) (M:=[]) hrb9 (by simp) (o:=0) (v:=I 0)).trans (Fx.set (X:=[59]) (M:=[]) (hrb9.set 0 (I 0)) (by simp) (o:=1) (v:=I 0))).trans (Fx.set (X:=[59]) (M:=[]) ((hrb9.set 0 (I 0)).set 1 (I 0)) (by simp) (o:=2) (v:=I 0))) (by decide),hfo.old (HGW.out.trans hg3),hno⟩
      have c9:=hrb9.cell;have z9:=hrb9.frozen
      have HC9:=hide (((hrb9.set 0 (I 0)).set 1 (I 0)).set 2 (I 0))
      have HG9:Hid (G W (((wr.setCell ⟨rb,0,none⟩ (I 0)).setCell ⟨rb,1,none⟩ (I 0)).setCell ⟨rb,2,none⟩ (I 0))):=(((hg9.setCell HLO.out.1 (I 0)).setCell HLO.out.1 (I 0)).setCell HLO.out.1 (I 0))
      clear hrb9 hg9
      clear hik hso hfo hno hg hil hgW hsl hsl2 hln htk
      go_wp2_with fail
      exact bodyPost_ret_by (v:=.tuple #[.slice ra rn rc,.agg #[I 0,I 0,I 0],I 0]) (retDr _ _ rb _ _ _ rfl rfl rfl HC9.out rfl) rfl ⟨.inr ⟨HF.out.2.2,ra,rn,rc,rfl,HF.out.1,HF.out.2.1⟩,HG9.out⟩
end Go.Proofs.YtifioikdhfhljaaGreatDoor
