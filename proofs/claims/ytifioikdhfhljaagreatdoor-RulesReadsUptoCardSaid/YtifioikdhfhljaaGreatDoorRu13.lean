/- Rules: what is handed in,and what to look at behind the call. -/
import Derived.Test.YtifioikdhfhljaaGreatDoorRu12
import Derived.Test.YtifioikdhfhljaaGreatDoorSh13
namespace Go.Proofs.YtifioikdhfhljaaGreatDoor
open Go.RowKit

theorem pushE9{α:Type}{E:Enc α}{P:Program}{ty ts tr:TypeId}{w wx:World}{ra:Option Addr}{rn rc bq:Nat}{l:List α}(i:TypeInfo)(z:Value)(bytes:Nat)(hts:P.underlying ts=some (.slice ty))(hi:P.info? ty=some i)(hz:i.zero=some z)(hsize:i.size=E.s)(hby:i.bytes=bytes)(hzs:z.cells.size=E.s)(hsz:0<E.s)
    (h:Sw E ty w (.slice ra rn rc) l) (x:α) (hA:G w wx) (hl:Row E.rel wx (.slice (some ⟨bq,0,none⟩) 1 1) [x]) (h63:rn+1≤maxLen) (hbytes:(rn+1)*bytes≤140737488355328) :
    ∃a c w',(Builtin.append_ #[ts,ts] tr #[.slice ra rn rc,.slice (some ⟨bq,0,none⟩) 1 1]).run P wx=.ok (.slice a (rn+1) c) w'∧Sw E ty w' (.slice a (rn+1) c) (l++[x])∧(∀M,Fx [ty] M w w')∧Chg (fun k=>(Value.slice ra rn rc).ownBlock=some k) w w'∧
      ∀k,(Value.slice a (rn+1) c).ownBlock=some k→(Value.slice ra rn rc).ownBlock=some k∨w.heap.size≤k:=by
  have hln:=h.len_eq
  obtain⟨v',w',q1,q2,q3,q4⟩:=app_row (P:=P) (tr:=tr) i z bytes hts hi hz hsize hby hzs hsz (h.G hA) hl (by rw[hln];simpa using h63) (by rw[hln];simpa using hbytes)
  obtain⟨a,c,hv⟩:=q2.form
  rw[List.length_append,hln] at hv
  obtain rfl:v'=.slice a (rn+1) c:=hv
  refine⟨a,c,w',q1,q2,fun M=>(Fx.of_G hA).trans (Fx.own q3 (h.G hA) (by simp)),(hA.chg).trans q3,fun k e=>?_⟩
  rcases q4 with q|q
  · exact .inl (q▸e)
  · rw[q] at e
    have:=Option.some.inj e
    have:=hA.size
    exact .inr (by omega)
theorem pushNx{α:Type}{D:Nst α}{P:Program}{ty ts tr:TypeId}{W w wx:World}{ra:Option Addr}{rn rc bq:Nat}{l:List α}(i:TypeInfo)(z:Value)(bytes:Nat)(hts:P.underlying ts=some (.slice ty))(hi:P.info? ty=some i)(hz:i.zero=some z)(hsize:i.size=D.s)(hby:i.bytes=bytes)(hzs:z.cells.size=D.s)(hsz:0<D.s)
    (h:NRow D ty w (.slice ra rn rc) l) (c:Raw D.s) (x:α) (hx:D.r w c.1 x) (hne:∀t∈D.tys,t∉[ty]) (hg:G W w) (hf:Fresh W (.slice ra rn rc)) (hA:G w wx) (hl:Row (eR D.s).rel wx (.slice (some ⟨bq,0,none⟩) 1 1) [c]) (h63:rn+1≤maxLen) (hbytes:(rn+1)*bytes≤140737488355328) :
    ∃a cc w',(Builtin.append_ #[ts,ts] tr #[.slice ra rn rc,.slice (some ⟨bq,0,none⟩) 1 1]).run P wx=.ok (.slice a (rn+1) cc) w'∧NRow D ty w' (.slice a (rn+1) cc) (l++[x])∧G W w'∧Fresh W (.slice a (rn+1) cc)∧Fx [ty] [] w w'∧Chg (fun k=>(Value.slice ra rn rc).ownBlock=some k) w w':=by
  obtain⟨rs,h1,h2,h3⟩:=h
  obtain⟨a,cc,w',r1,r2,r3,r4,r5⟩:=pushE9 (P:=P) (E:=eR D.s) (tr:=tr) i z bytes hts hi hz hsize hby hzs hsz h1 c hA hl h63 hbytes
  have hk:=(r3 []).kx
  refine⟨a,cc,w',r1,⟨rs++[c],r2,by simp[h2],nrow_step (fun i c' x' e1 e2=>D.keep hk hne (h3 i c' x' e1 e2)) h2 (D.keep hk hne hx)⟩,?_,fun k e=>?_,r3 [],r4⟩
  · exact(((hg).chg (F:=fun _=>False)).more r4 (fun i hi q=>by have:=hf i q;omega)).G (fun _ q=>q.elim)
  · rcases r5 k e with r|r
    · exact hf k r
    · have:=hg.size;omega
/-- What is given,on its way. -/
structure Gv(W w:World)(sb B1 rb:Nat)(g1 g2:Value)(lN:List Nd)(lE:List Ed)(lR:List (List Pv))(vn ve vr:Value):Prop where
  b:Blk w sb 119 [vn,ve,vr]
  n:NRow dNo 69 w vn lN
  e:NRow dEo 72 w ve lE
  r:NRow dRm 42 w vr lR
  fn:Fresh W vn
  fe:Fresh W ve
  fr:Fresh W vr
  c:Blk w B1 25 [g1,g2]
  q:Blk w rb 25 [.slice none 0 0,.slice none 0 0]
  g:G W w
theorem Gv.G{W w w':World}{sb B1 rb:Nat}{g1 g2:Value}{lN:List Nd}{lE:List Ed}{lR:List (List Pv)}{vn ve vr:Value}(h:Gv W w sb B1 rb g1 g2 lN lE lR vn ve vr)(k:Go.Proofs.YtifioikdhfhljaaGreatDoor.G w w'):Gv W w' sb B1 rb g1 g2 lN lE lR vn ve vr:=
  ⟨h.b.G k,h.n.G k,h.e.G k,h.r.G k,h.fn,h.fe,h.fr,h.c.G k,h.q.G k,h.g.trans k⟩
theorem Gv.addN{W w w7:World}{sb B1 rb:Nat}{g1 g2:Value}{lN:List Nd}{lE:List Ed}{lR:List (List Pv)}{vn ve vr:Value}(h:Gv W w sb B1 rb g1 g2 lN lE lR vn ve vr)(hs:W.heap.size≤sb){v9:Value}{l9:List Nd}(r2:NRow dNo 69 w7 v9 l9)(r3:Go.Proofs.YtifioikdhfhljaaGreatDoor.G W w7)(r4:Fresh W v9)(r5:Fx [69] [] w w7):Blk w7 sb 119 [vn,ve,vr]∧Gv W (w7.setCell ⟨sb,0,none⟩ v9) sb B1 rb g1 g2 l9 lE lR v9 ve vr∧Fx [119] [] w7 (w7.setCell ⟨sb,0,none⟩ v9):=by
  have hb:=h.b.fx r5 (by decide)
  have fx8:Fx [119] [] w7 (w7.setCell ⟨sb,0,none⟩ v9):=Fx.set hb (by simp)
  exact⟨hb,⟨hb.set 0 v9,r2.fx fx8 (by decide) (by intro q hq;simp at hq;subst hq;decide),(h.e.fx r5 (by decide) (by intro q hq;simp at hq;subst hq;decide)).fx fx8 (by decide) (by intro q hq;simp at hq;subst hq;decide),(h.r.fx r5 (by decide) (by intro q hq;simp at hq;subst hq;decide)).fx fx8 (by decide) (by intro q hq;simp at hq;subst hq;decide),r4,h.fe,h.fr,(h.c.fx r5 (by decide)).fx fx8 (by decide),(h.q.fx r5 (by decide)).fx fx8 (by decide),r3.setCell hs _⟩,fx8⟩
theorem Gv.addE{W w w7:World}{sb B1 rb:Nat}{g1 g2:Value}{lN:List Nd}{lE:List Ed}{lR:List (List Pv)}{vn ve vr:Value}(h:Gv W w sb B1 rb g1 g2 lN lE lR vn ve vr)(hs:W.heap.size≤sb){v9:Value}{l9:List Ed}(r2:NRow dEo 72 w7 v9 l9)(r3:Go.Proofs.YtifioikdhfhljaaGreatDoor.G W w7)(r4:Fresh W v9)(r5:Fx [72] [] w w7):Blk w7 sb 119 [vn,ve,vr]∧Gv W (w7.setCell ⟨sb,1,none⟩ v9) sb B1 rb g1 g2 lN l9 lR vn v9 vr∧Fx [119] [] w7 (w7.setCell ⟨sb,1,none⟩ v9):=by
  have hb:=h.b.fx r5 (by decide)
  have fx8:Fx [119] [] w7 (w7.setCell ⟨sb,1,none⟩ v9):=Fx.set hb (by simp)
  exact⟨hb,⟨hb.set 1 v9,(h.n.fx r5 (by decide) (by intro q hq;simp at hq;subst hq;decide)).fx fx8 (by decide) (by intro q hq;simp at hq;subst hq;decide),r2.fx fx8 (by decide) (by intro q hq;simp at hq;subst hq;decide),(h.r.fx r5 (by decide) (by intro q hq;simp at hq;subst hq;decide)).fx fx8 (by decide) (by intro q hq;simp at hq;subst hq;decide),h.fn,r4,h.fr,(h.c.fx r5 (by decide)).fx fx8 (by decide),(h.q.fx r5 (by decide)).fx fx8 (by decide),r3.setCell hs _⟩,fx8⟩
theorem Gv.addR{W w w7:World}{sb B1 rb:Nat}{g1 g2:Value}{lN:List Nd}{lE:List Ed}{lR:List (List Pv)}{vn ve vr:Value}(h:Gv W w sb B1 rb g1 g2 lN lE lR vn ve vr)(hs:W.heap.size≤sb){v9:Value}{l9:List (List Pv)}(r2:NRow dRm 42 w7 v9 l9)(r3:Go.Proofs.YtifioikdhfhljaaGreatDoor.G W w7)(r4:Fresh W v9)(r5:Fx [42] [] w w7):Blk w7 sb 119 [vn,ve,vr]∧Gv W (w7.setCell ⟨sb,2,none⟩ v9) sb B1 rb g1 g2 lN lE l9 vn ve v9∧Fx [119] [] w7 (w7.setCell ⟨sb,2,none⟩ v9):=by
  have hb:=h.b.fx r5 (by decide)
  have fx8:Fx [119] [] w7 (w7.setCell ⟨sb,2,none⟩ v9):=Fx.set hb (by simp)
  exact⟨hb,⟨hb.set 2 v9,(h.n.fx r5 (by decide) (by intro q hq;simp at hq;subst hq;decide)).fx fx8 (by decide) (by intro q hq;simp at hq;subst hq;decide),(h.e.fx r5 (by decide) (by intro q hq;simp at hq;subst hq;decide)).fx fx8 (by decide) (by intro q hq;simp at hq;subst hq;decide),r2.fx fx8 (by decide) (by intro q hq;simp at hq;subst hq;decide),h.fn,h.fe,r4,(h.c.fx r5 (by decide)).fx fx8 (by decide),(h.q.fx r5 (by decide)).fx fx8 (by decide),r3.setCell hs _⟩,fx8⟩
theorem retGv(tmps:Array Value)(W:World)(rb:Nat)(cs:List Value)(v:Value)(hp:tmps.getD 2 undef=.pointer (some ⟨rb,0,none⟩))(hc:tmps.getD 3 undef=v)(hr:Blk W rb 25 cs)(hl:cs.length=2) :
    (results Tryz.f21 tmps).run Tryz.prog W=.ok (.tuple #[.agg cs.toArray,v]) W:=by
  rw[results_cell_tmp Tryz.results21,hp,hc]
  have h:=run_loadVar_mid (P:=Tryz.prog) W rb 0 25 cs _ (by have:=hr.range 0 2;rw[List.drop_zero,List.take_of_length_le (by omega)] at this;exact this) Tryz.underlying25 rfl (by rw[hl];kernel_rfl)
  simp only[asAddr,Sem.run_pure,Result.andThen_ok,h]
theorem rooms_take9(l:List Pv):(rooms l).take l.length=l:=by simp[rooms]
/-- What rulesGive answers. -/
def GiveP(ns:List Nd)(es:List Ed)(W W':World)(e:Ending):Prop:=∃(sb:Nat) (b0:Option Addr) (d0:Nat) (b1:Option Addr) (d1:Nat) (a3:Option Addr) (c3:Nat),e=.returned (.tuple #[.agg #[.slice b0 ns.length d0,.slice b1 es.length d1],ptr sb])∧
  (Blk W' sb 119 [.slice b0 (ns.length+2) d0,.slice b1 (es.length+2) d1,.slice a3 (ns.length+es.length) c3]∧NRow dNo 69 W' (.slice b0 (ns.length+2) d0) (ns++ndM)∧NRow dEo 72 W' (.slice b1 (es.length+2) d1) (es++edM)∧NRow dRm 42 W' (.slice a3 (ns.length+es.length) c3) ((ns.map fun y=>rooms y.ps)++es.map fun y=>rooms y.ps))∧W.heap.size≤sb∧G W W'
set_option maxRecDepth 100000 in
set_option maxHeartbeats 8000000 in
theorem rgive_any(ns:List Nd)(es:List Ed)(nv ev:Value)(W:World)(h1:Row relN W nv ns)(h2:Row relE W ev es)(hs:SmB ns es):Calls Tryz.prog 21 #[.agg #[nv,ev]] W fun e W'=>GiveP ns es W W' e:=by
  obtain⟨sa,sc,rfl⟩:=h1.form
  obtain⟨ta,tc,rfl⟩:=h2.form
  obtain⟨kn,hkn⟩:∃n,n=ns.length:=⟨_,rfl⟩
  obtain⟨ke,hke⟩:∃n,n=es.length:=⟨_,rfl⟩
  have HK:Hid (kn=ns.length∧ke=es.length):=⟨hkn,hke⟩
  rw[←hkn] at h1
  rw[←hke] at h2
  rw[show(Value.slice sa ns.length sc)=.slice sa kn sc by rw[hkn],show(Value.slice ta es.length tc)=.slice ta ke tc by rw[hke]]
  obtain⟨w3,hw3⟩:∃w,w=(((W.alloc (.cells #[.slice sa kn sc,.slice ta ke tc] 25)).alloc (.cells #[.slice none 0 0,.slice none 0 0] 25)).alloc (.cells #[.slice none 0 0,.slice none 0 0,.slice none 0 0] 119)):=⟨_,rfl⟩
  obtain⟨B1,hB1⟩:∃b,b=W.heap.size:=⟨_,rfl⟩
  obtain⟨rb,hrb⟩:∃b,b=B1+1:=⟨_,rfl⟩
  obtain⟨sb,hsb⟩:∃b,b=rb+1:=⟨_,rfl⟩
  have hgw:G W w3:=by rw[hw3];exact(((G.refl W).alloc _).alloc _).alloc _
  have hb1:Blk w3 B1 25 [.slice sa kn sc,.slice ta ke tc]:=by rw[hw3,hB1];exact(Blk.new W [.slice sa kn sc,.slice ta ke tc] 25).G (((G.refl _).alloc _).alloc _)
  have hb2:Blk w3 rb 25 [.slice none 0 0,.slice none 0 0]:=by
    have:=(Blk.new (W.alloc (.cells #[.slice sa kn sc,.slice ta ke tc] 25)) [.slice none 0 0,.slice none 0 0] 25).G ((G.refl _).alloc (.cells #[.slice none 0 0,.slice none 0 0,.slice none 0 0] 119))
    rw[hw3,hrb,hB1]
    simpa using this
  have hb3:Blk w3 sb 119 [.slice none 0 0,.slice none 0 0,.slice none 0 0]:=by
    have:=Blk.new ((W.alloc (.cells #[.slice sa kn sc,.slice ta ke tc] 25)).alloc (.cells #[.slice none 0 0,.slice none 0 0] 25)) [.slice none 0 0,.slice none 0 0,.slice none 0 0] 119
    rw[hw3,hsb,hrb,hB1]
    simpa using this
  have HV0:Hid (Gv W w3 sb B1 rb (.slice sa kn sc) (.slice ta ke tc) [] [] [] (.slice none 0 0) (.slice none 0 0) (.slice none 0 0)):=⟨hb3,NRow.nil _ _ _,NRow.nil _ _ _,NRow.nil _ _ _,Fresh.nil _,Fresh.nil _,Fresh.nil _,hb1,hb2,hgw⟩
  have HEW:Hid ((((W.alloc (.cells #[.slice sa kn sc,.slice ta ke tc] 25)).alloc (.cells #[.slice none 0 0,.slice none 0 0] 25)).alloc (.cells #[.slice none 0 0,.slice none 0 0,.slice none 0 0] 119))=w3):=hw3.symm
  have HE1:Hid (W.heap.size=B1):=hB1.symm
  have HE2:Hid (B1+1=rb):=hrb.symm
  have HE3:Hid (rb+1=sb):=hsb.symm
  have HSB:Hid (W.heap.size≤sb):=by show _≤_;omega
  have HRB:Hid (W.heap.size≤rb∧B1≠rb):=⟨by omega,by omega⟩
  have HS:=hide (And.intro h1 h2);have HSM:=hide hs
  clear h1 h2 hs hw3 hB1 hrb hsb hgw hb1 hb2 hb3 hkn hke
  go_enter Tryz.func21,Tryz.ntmps21
  go_wp2_with fail
  try rw[HEW.out]
  try rw[HE1.out]
  try rw[HE2.out]
  try rw[HE3.out]
  clear HEW HE1 HE2 HE3
  go_loopw [5,6,7] (fun iv _ _ wr=>∃(i:Nat) (a1:Option Addr) (n1 c1:Nat) (a3:Option Addr) (n3 c3:Nat),iv=I i∧i≤ns.length∧Gv W wr sb B1 rb (.slice sa kn sc) (.slice ta ke tc) (ns.take i) [] ((ns.take i).map fun y=>rooms y.ps) (.slice a1 n1 c1) (.slice none 0 0) (.slice a3 n3 c3)) (fun iv _ _ _=>ns.length-(RowKit.intOf iv).toNat)
  case atStart=>exact⟨0,none,0,0,none,0,0,rfl,Nat.zero_le _,HV0.out⟩
  case round=>
    clear HV0
    rename_i wr hout
    obtain⟨i,a1,n1,c1,a3,n3,c3,rfl,hik,hv⟩:=hrel
    have hsz:=HSM.out
    have hkl:=HK.out
    have hszn:=hsz.n
    have hsze:=hsz.e
    have cG:=hv.c.cell
    have cS:=hv.b.cell
    have hl1:=hv.n.len_eq
    have hl3:=hv.r.len_eq
    rw[List.length_take] at hl1
    rw[List.length_map,List.length_take] at hl3
    by_cases hil:i<ns.length
    · obtain⟨x,hx⟩:∃y,ns[i]?=some y:=⟨_,List.getElem?_eq_getElem hil⟩
      obtain⟨g,o,cp,q⟩:=(HS.out.1).addr (by omega)
      injection q with q1 q2 q3
      subst q1 q3
      obtain⟨cs,⟨pv,hcs,hvp⟩,hr1⟩:=(HS.out.1).at hx
      subst hcs
      obtain⟨pa,pc,hvf⟩:=hvp.form
      obtain⟨pn,hpn⟩:∃n,n=x.ps.length:=⟨_,rfl⟩
      rw[←hpn] at hvf
      subst hvf
      have x1:wr.cell? ⟨g,o+i*3,none⟩=some (I x.id):=by have:=rangeAt_G hr1 hv.g 0 _ rfl;simpa using this
      have x2:wr.cell? ⟨g,o+i*3+1,none⟩=some (.string x.lb):=by have:=rangeAt_G hr1 hv.g 1 _ rfl;simpa using this
      have x3:wr.cell? ⟨g,o+i*3+2,none⟩=some (.slice pa pn pc):=by have:=rangeAt_G hr1 hv.g 2 _ rfl;simpa using this
      have i1:(i:Int)<(kn:Int):=by omega
      have HW:Hid (wrap64 ((i:Int)+1)=(i:Int)+1):=by show _=_;unfold wrap64;omega
      have hxp:x.ps.length≤1048576:=hsz.p x (List.mem_of_getElem? hx)
      obtain⟨w4,hw4⟩:∃w,w=wr.alloc (.cells #[I x.id,.string x.lb,.slice pa pn pc] 69):=⟨_,rfl⟩
      obtain⟨B6,hB6⟩:∃b,b=wr.heap.size:=⟨_,rfl⟩
      have hg4:G wr w4:=by rw[hw4];exact(G.refl wr).alloc _
      have hb6:Blk w4 B6 69 [I x.id,.string x.lb,.slice pa pn pc]:=by rw[hw4,hB6];exact Blk.new wr [I x.id,.string x.lb,.slice pa pn pc] 69
      have HE4:Hid (wr.alloc (.cells #[I x.id,.string x.lb,.slice pa pn pc] 69)=w4):=hw4.symm
      have HE6:Hid (wr.heap.size=B6):=hB6.symm
      have HNE:Hid ((Value.slice a1 n1 c1).ownBlock≠some B6):=fun e=>by have:=hv.n.lt e;omega
      have HBW:Hid (W.heap.size≤B6):=by rw[Hid,hB6];exact hv.g.size
      have KC:=hide (rroom_any x.ps _ w4 ((hvp.G hv.g).G hg4) hxp)
      have HV4:=hide (hv.G hg4);have HB64:=hide hb6;have HIL:=hide hil;have HX:=hide hx;have HPN:Hid (pn=x.ps.length∧pn≤1048576):=⟨hpn,by omega⟩
      have HNL:Hid (n1=i∧n3≤2097152∧i≤1048576):=⟨by omega,by have:=hsz.n;have:=hsz.e;omega,by have:=hsz.n;omega⟩
      have c6:=hb6.cell
      clear hik hv hsz hszn hsze hkl hl1 hl3 hil hx q2 hr1 hvp hpn hxp hw4 hB6 hg4 hb6
      go_wp2_with (first|(rw[HE4.out];(try rw[HE6.out]);clear HE4)|fail)
      try rw[HE4.out]
      try rw[HE6.out]
      clear cG cS c6 x1 x2 x3
      refine KC.out.mono ?_
      rintro e w5 ⟨va,vn,vc,rfl,hs5,hf5,hg5⟩
      have hv5:=HV4.out.G hg5
      have hb65:=HB64.out.G hg5
      have hpn:=HPN.out
      have hnl:=HNL.out
      have hvn:=hs5.len_eq
      rw[rooms,List.length_append] at hvn
      have hvn2:vn=pn+2:=by simp at hvn;omega
      have hpc:vn≤vc:=by
        rcases hs5 with ⟨q,_⟩|⟨_,_,_,q,_,_,q2,_⟩
        · injection q with q1 q2 q3;omega
        · injection q with q1 q2' q3;omega
      have hmx:(4194304:Nat)≤maxLen:=of_decide_eq_true (by kernel_rfl)
      obtain⟨j0,hj0,hy0,hy1,hy2⟩:=info_Ps
      obtain⟨dR,hdR⟩:∃cR:Raw dRm.s,cR.1=[.slice va vn vc]:=⟨⟨[.slice va vn vc],rfl,fun u hu=>by simp at hu;rcases hu with rfl;rfl⟩,rfl⟩
      obtain⟨a5,c5,w7,r1,r2,r3,r4,r5⟩:=pushN (P:=Tryz.prog) (D:=dRm) (tr:=27) j0 _ 24 Tryz.underlying27 hj0 hy0 hy1 hy2 rfl (by decide) hv5.r dR (rooms x.ps) (by rw[hdR];exact⟨_,rfl,hs5⟩) (by decide) hv5.g hv5.fr (by omega) (by omega)
      rw[hdR] at r1
      have HR:=hide r1
      obtain⟨hb7,hv8,fx8⟩:=Gv.addR hv5 HSB.out r2 r3 r4 r5
      have hs8:=(hs5.fx r5 (by decide)).fx fx8 (by decide)
      have hb67:=hb65.fx r5 (by decide)
      have hb68:=hb67.fx fx8 (by decide)
      obtain⟨w8,hw8⟩:∃w,w=w7.setCell ⟨sb,2,none⟩ (.slice a5 (n3+1) c5):=⟨_,rfl⟩
      rw[←hw8] at hv8 fx8 hs8 hb68
      obtain⟨w9,hw9⟩:∃w,w=w8.setCell ⟨B6,2,none⟩ (.slice va pn vc):=⟨_,rfl⟩
      have fx9:Fx [69] [] w8 w9:=by rw[hw9];exact Fx.set hb68 (by simp)
      have hb69:Blk w9 B6 69 [I x.id,.string x.lb,.slice va pn vc]:=by rw[hw9];exact hb68.set 2 _
      have hs9:=(hs8.take (m:=pn) (by omega)).fx fx9 (by decide)
      rw[hpn.1,rooms_take9,←hpn.1] at hs9
      have hn9:NRow dNo 69 w9 (.slice a1 n1 c1) (ns.take i):=by rw[hw9];exact hv8.n.off (o:=2) (u:=.slice va pn vc) HNE.out hb68 (by intro q hq;simp at hq;subst hq;decide)
      have hv9:Gv W w9 sb B1 rb (.slice (some ⟨g,o,none⟩) kn sc) (.slice ta ke tc) (ns.take i) [] ((ns.take (i+1)).map fun y=>rooms y.ps) (.slice a1 n1 c1) (.slice none 0 0) (.slice a5 (n3+1) c5):=by
        refine⟨hv8.b.fx fx9 (by decide),hn9,hv8.e.fx fx9 (by decide) (by intro q hq;simp at hq;subst hq;decide),?_,hv8.fn,hv8.fe,hv8.fr,hv8.c.fx fx9 (by decide),hv8.q.fx fx9 (by decide),by rw[hw9];exact hv8.g.setCell HBW.out _⟩
        have:=hv8.r.fx fx9 (by decide) (by intro q hq;simp at hq;subst hq;decide)
        rw[List.take_add_one,HX.out,List.map_append]
        exact this
      obtain⟨i0,hi0,hz0,hz1,hz2⟩:=info_N
      obtain⟨cR,hcR⟩:∃cR:Raw dNo.s,cR.1=[I x.id,.string x.lb,.slice va pn vc]:=⟨⟨[I x.id,.string x.lb,.slice va pn vc],rfl,fun u hu=>by simp at hu;rcases hu with rfl|rfl|rfl<;>rfl⟩,rfl⟩
      have HPU:Hid (∀wx bq,G w9 wx→Row (eR dNo.s).rel wx (.slice (some ⟨bq,0,none⟩) 1 1) [cR]→∃a cc w',(Builtin.append_ #[22,22] 22 #[.slice a1 n1 c1,.slice (some ⟨bq,0,none⟩) 1 1]).run Tryz.prog wx=.ok (.slice a (n1+1) cc) w'∧NRow dNo 69 w' (.slice a (n1+1) cc) (ns.take (i+1))∧G W w'∧Fresh W (.slice a (n1+1) cc)∧Fx [69] [] w9 w'∧Chg (fun k=>(Value.slice a1 n1 c1).ownBlock=some k) w9 w'):=fun wx bq hA hL=>by
        rw[List.take_add_one,HX.out]
        exact pushNx (P:=Tryz.prog) (D:=dNo) (tr:=22) i0 _ 48 Tryz.underlying22 hi0 hz0 hz1 hz2 rfl (Nat.succ_pos _) hv9.n cR x (by rw[hcR];exact⟨_,rfl,hs9⟩) (by intro q hq;simp at hq;subst hq;decide) hv9.g hv9.fn hA hL (by omega) (by omega)
      have HCR:=hide hcR
      have H9:=hide hv9;have HB69:=hide hb69
      have HE8:Hid (w7.setCell ⟨sb,2,none⟩ (.slice a5 (n3+1) c5)=w8):=hw8.symm
      have HE9:Hid (w8.setCell ⟨B6,2,none⟩ (.slice va pn vc)=w9):=hw9.symm
      have cS5:=hv5.b.cell
      have cS7:=hb7.cell
      have zS7:=hb7.frozen
      have c68:=hb68.cell
      have z68:=hb68.frozen
      have hw1:wrap64 ((vn:Int)-2)=(pn:Int):=by unfold wrap64;omega
      have hv1:IntKind.i64.wrap ((vn:Int)-2)=(pn:Int):=by rw[Go.PlainAid.i64_is];exact hw1
      have hsl:(pn:Int)≤(vc:Int):=by omega
      clear hs5 hf5 hg5 hv5 hb65 hpn hnl hvn hvn2 hpc hmx hj0 hy0 hy1 hy2 hdR r1 r2 r3 r4 r5 hb7 hv8 fx8 hs8 hb67 hb68 hw8 hw9 fx9 hb69 hs9 hn9 hv9 hi0 hz0 hz1 hz2 hcR KC
      go_wp2_with (first|(at_builtin;refine wpList_append_run rfl _ _ 27 rfl (.slice a3 n3 c3) (.slice (some ⟨w5.heap.size,0,none⟩) 1 1) rfl rfl HR.out ?_)|(rw[HE8.out];clear HE8)|(rw[HE9.out];clear HE9)|fail)
      try rw[HE9.out]
      clear cS5 cS7 zS7 c68 z68
      refine wp_region_noPanic ?_
      refine wp_region_L (S:=(fun V=>(∀t,V.cell? ⟨sb,t,none⟩=([.slice a1 n1 c1,.slice none 0 0,.slice a5 (n3+1) c5]:List Value)[t]?)∧(∀t,V.cell? ⟨B6,t,none⟩=([I x.id,.string x.lb,.slice va pn vc]:List Value)[t]?))) 10 (by kernel_rfl) (⟨(H9.out.b.G (G.refl _).drew).cell,(HB69.out.G (G.refl _).drew).cell⟩) (fun hHeld=>?_)
      refine wpAnyL_take (i:=0) (v:=?_) rfl (by kernel_rfl) (by kernel_rfl) (by kernel_rfl) (by kernel_rfl) (fun _ _ _ h=>h) (Or.inl ⟨by rfl,?_⟩) hHeld ?_
      rotate_left 1
      · (intro w hSw;(try dsimp only at hSw);go_simp;try with_reducible rfl)
      try simp only[Act.put,List.getElem_toArray,List.getElem_cons_zero,List.setIfInBounds_toArray,List.set_cons_zero,List.set_cons_succ]
      refine wpAnyL_take (i:=1) (v:=?_) rfl (by kernel_rfl) (by kernel_rfl) (by kernel_rfl) (by kernel_rfl) (fun _ _ _ h=>h) (Or.inl ⟨by rfl,?_⟩) hHeld ?_
      rotate_left 1
      · (intro w hSw;(try dsimp only at hSw);go_simp;try with_reducible rfl)
      try simp only[Act.put,List.getElem_toArray,List.getElem_cons_zero,List.getElem_cons_succ,List.setIfInBounds_toArray,List.set_cons_zero,List.set_cons_succ]
      refine wpAnyL_take (i:=2) (v:=?_) rfl (by kernel_rfl) (by kernel_rfl) (by kernel_rfl) (by kernel_rfl) (fun _ _ _ h=>h) (Or.inl ⟨by rfl,?_⟩) hHeld ?_
      rotate_left 1
      · (intro w hSw;(try dsimp only at hSw);go_simp;try with_reducible rfl)
      try simp only[Act.put,List.getElem_toArray,List.getElem_cons_zero,List.getElem_cons_succ,List.setIfInBounds_toArray,List.set_cons_zero,List.set_cons_succ]
      refine wpAnyL_take (i:=3) (v:=?_) rfl (by kernel_rfl) (by kernel_rfl) (by kernel_rfl) (by kernel_rfl) (fun _ _ _ h=>h) (Or.inl ⟨by rfl,?_⟩) hHeld ?_
      rotate_left 1
      · (intro w hSw;(try dsimp only at hSw);go_simp;try with_reducible rfl)
      try simp only[Act.put,List.getElem_toArray,List.getElem_cons_zero,List.getElem_cons_succ,List.setIfInBounds_toArray,List.set_cons_zero,List.set_cons_succ]
      refine wpAnyL_take (i:=4) (v:=?_) rfl (by kernel_rfl) (by kernel_rfl) (by kernel_rfl) (by kernel_rfl) (fun _ _ _ h=>h) (Or.inl ⟨by rfl,?_⟩) hHeld ?_
      rotate_left 1
      · (intro w hSw;obtain⟨k1,k2⟩:=hSw;go_simp;try with_reducible rfl)
      try simp only[Act.put,List.getElem_toArray,List.getElem_cons_zero,List.getElem_cons_succ,List.setIfInBounds_toArray,List.set_cons_zero,List.set_cons_succ]
      refine wpAnyL_take (i:=5) (v:=?_) rfl (by kernel_rfl) (by kernel_rfl) (by kernel_rfl) (by kernel_rfl) (fun _ _ _ h=>h) (Or.inl ⟨by rfl,?_⟩) hHeld ?_
      rotate_left 1
      · (intro w hSw;obtain⟨k1,k2⟩:=hSw;go_simp;try with_reducible rfl)
      try simp only[Act.put,List.getElem_toArray,List.getElem_cons_zero,List.getElem_cons_succ,List.setIfInBounds_toArray,List.set_cons_zero,List.set_cons_succ]
      refine wpAnyL_one (i:=6) (by kernel_rfl) rfl (by kernel_rfl) (fun K hK=>?_)
      clear hHeld
      go_simp
      have HG10:Hid (G w9 (w9.alloc (.cells #[I x.id,.string x.lb,.slice va pn vc] 69)).drew):=((G.refl w9).alloc _).drew
      have HL10:Hid (Row (eR dNo.s).rel (w9.alloc (.cells #[I x.id,.string x.lb,.slice va pn vc] 69)).drew (.slice (some ⟨w9.heap.size,0,none⟩) 1 1) [cR]):=by
        have:=(Row.lit (E:=eR dNo.s) w9 69 [cR] 1 (by simp)).G (((G.refl _).drew))
        rw[show(eR dNo.s).fl [cR]=cR.1 by simp[Enc.fl],HCR.out] at this
        exact this
      generalize (w9.alloc (.cells #[I x.id,.string x.lb,.slice va pn vc] 69)).drew=w10 at HG10 HL10⊢
      refine hK.out _ _ (⟨(H9.out.b.G HG10.out).cell,(HB69.out.G HG10.out).cell⟩) (fun hHeld=>?_)
      clear hK K
      try simp only[Act.put,List.getElem_toArray,List.getElem_cons_zero,List.getElem_cons_succ,List.setIfInBounds_toArray,List.set_cons_zero,List.set_cons_succ]
      refine wpAnyL_one (i:=7) (by kernel_rfl) rfl (by kernel_rfl) (fun K hK=>?_)
      clear hHeld
      obtain⟨a7,c7,w11,hrun,s2,s3,s4,s5,s6⟩:=HPU.out w10 w9.heap.size HG10.out HL10.out
      have HADD:=hide (Gv.addN H9.out HSB.out s2 s3 s4 s5)
      have HB611:=hide (HB69.out.chg s6 (fun e=>HNE.out e))
      clear s2 s3 s4 s5 s6
      refine(if_pos rfl).mpr ?_
      refine wp_of_exec (exec_append _ _ 22 rfl (.slice a1 n1 c1) (.slice (some ⟨w9.heap.size,0,none⟩) 1 1) rfl rfl 22 rfl hrun) ?_
      clear hrun
      refine hK.out _ _ (⟨HADD.out.1.cell,HB611.out.cell⟩) (fun hHeld=>?_)
      clear hK K
      try simp only[Act.put,List.getElem_toArray,List.getElem_cons_zero,List.getElem_cons_succ,List.setIfInBounds_toArray,List.set_cons_zero,List.set_cons_succ]
      refine wpAnyL_take2 9 (i:=8) (v:=?_) rfl (by kernel_rfl) (by kernel_rfl) (by kernel_rfl) (by kernel_rfl) (fun _ _ _ h=>h) (Or.inl ⟨by rfl,?_⟩) hHeld ?_
      rotate_left 1
      · (intro w hSw;(try dsimp only at hSw);go_simp;try with_reducible rfl)
      try simp only[Act.put,List.getElem_toArray,List.getElem_cons_zero,List.getElem_cons_succ,List.setIfInBounds_toArray,List.set_cons_zero,List.set_cons_succ]
      refine wpAnyL_take (i:=9) (v:=?_) rfl (by kernel_rfl) (by kernel_rfl) (by kernel_rfl) (by kernel_rfl) (fun _ _ _ h=>h) (Or.inl ⟨by rfl,?_⟩) hHeld ?_
      rotate_left 1
      · (intro w hSw;(try dsimp only at hSw);go_simp;try with_reducible rfl)
      try simp only[Act.put,List.getElem_toArray,List.getElem_cons_zero,List.getElem_cons_succ,List.setIfInBounds_toArray,List.set_cons_zero,List.set_cons_succ]
      refine wpAnyL_last (by kernel_rfl) rfl (by kernel_rfl) (fun K hK=>?_)
      clear hHeld
      have hc7:=HADD.out.1.cell
      have hz7:=HADD.out.1.frozen
      go_simp
      refine hK.out _ _ ?_
      clear hK K
      refine NoPanic.normal ?_
      have HFIN:=HADD.out.2.1
      clear HADD
      go_wp2_with fail
      exact⟨⟨i+1,a7,n1+1,c7,a5,n3+1,c5,by rw[HW.out];exact srl i,HIL.out,HFIN⟩,by rw[HW.out];exact sms HIL.out⟩
    · have i1:¬(i:Int)<(kn:Int):=by omega
      have htk:ns.take i=ns:=List.take_of_length_le (by omega)
      rw[htk] at hv
      have HV:=hide hv
      have HN1:Hid (n1=ns.length):=by show _=_;omega
      clear hik hv hil htk hl1 hl3 hsz hszn hsze hkl
      have HN1N:=HN1
      go_wp2_with fail
      clear i1 cG cS HN1
      go_loopw [8,9,10] (fun iv _ _ wr=>∃(i:Nat) (a2:Option Addr) (n2 c2:Nat) (a3:Option Addr) (n3 c3:Nat),iv=I i∧i≤es.length∧Gv W wr sb B1 rb (.slice sa kn sc) (.slice ta ke tc) ns (es.take i) ((ns.map fun y=>rooms y.ps)++(es.take i).map fun y=>rooms y.ps) (.slice a1 n1 c1) (.slice a2 n2 c2) (.slice a3 n3 c3)) (fun iv _ _ _=>es.length-(RowKit.intOf iv).toNat)
      case atStart=>exact⟨0,none,0,0,a3,n3,c3,rfl,Nat.zero_le _,by have:=HV.out;simpa using this⟩
      case round=>
        clear HV
        rename_i wr hout
        obtain⟨i,a2,n2,c2,a3,n3,c3,rfl,hik,hv⟩:=hrel
        have hsz:=HSM.out
        have hkl:=HK.out
        have hszn:=hsz.n
        have hsze:=hsz.e
        have cG:=hv.c.cell
        have cS:=hv.b.cell
        have hl1:=hv.e.len_eq
        have hl3:=hv.r.len_eq
        rw[List.length_take] at hl1
        rw[List.length_append,List.length_map,List.length_map,List.length_take] at hl3
        by_cases hil:i<es.length
        · obtain⟨x,hx⟩:∃y,es[i]?=some y:=⟨_,List.getElem?_eq_getElem hil⟩
          obtain⟨g,o,cp,q⟩:=(HS.out.2).addr (by omega)
          injection q with q1 q2 q3
          subst q1 q3
          obtain⟨cs,⟨pv,hcs,hvp⟩,hr1⟩:=(HS.out.2).at hx
          subst hcs
          obtain⟨pa,pc,hvf⟩:=hvp.form
          obtain⟨pn,hpn⟩:∃n,n=x.ps.length:=⟨_,rfl⟩
          rw[←hpn] at hvf
          subst hvf
          have x1:wr.cell? ⟨g,o+i*5,none⟩=some (I x.id):=by have:=rangeAt_G hr1 hv.g 0 _ rfl;simpa using this
          have x2:wr.cell? ⟨g,o+i*5+1,none⟩=some (.string x.ty):=by have:=rangeAt_G hr1 hv.g 1 _ rfl;simpa using this
          have x3:wr.cell? ⟨g,o+i*5+2,none⟩=some (I x.fr):=by have:=rangeAt_G hr1 hv.g 2 _ rfl;simpa using this
          have x4:wr.cell? ⟨g,o+i*5+3,none⟩=some (I x.to):=by have:=rangeAt_G hr1 hv.g 3 _ rfl;simpa using this
          have x5:wr.cell? ⟨g,o+i*5+4,none⟩=some (.slice pa pn pc):=by have:=rangeAt_G hr1 hv.g 4 _ rfl;simpa using this
          have i1:(i:Int)<(ke:Int):=by omega
          have HW:Hid (wrap64 ((i:Int)+1)=(i:Int)+1):=by show _=_;unfold wrap64;omega
          have hxp:x.ps.length≤1048576:=hsz.q x (List.mem_of_getElem? hx)
          obtain⟨w4,hw4⟩:∃w,w=wr.alloc (.cells #[I x.id,.string x.ty,I x.fr,I x.to,.slice pa pn pc] 72):=⟨_,rfl⟩
          obtain⟨B6,hB6⟩:∃b,b=wr.heap.size:=⟨_,rfl⟩
          have hg4:G wr w4:=by rw[hw4];exact(G.refl wr).alloc _
          have hb6:Blk w4 B6 72 [I x.id,.string x.ty,I x.fr,I x.to,.slice pa pn pc]:=by rw[hw4,hB6];exact Blk.new wr [I x.id,.string x.ty,I x.fr,I x.to,.slice pa pn pc] 72
          have HE4:Hid (wr.alloc (.cells #[I x.id,.string x.ty,I x.fr,I x.to,.slice pa pn pc] 72)=w4):=hw4.symm
          have HE6:Hid (wr.heap.size=B6):=hB6.symm
          have HNE:Hid ((Value.slice a2 n2 c2).ownBlock≠some B6):=fun e=>by have:=hv.e.lt e;omega
          have HBW:Hid (W.heap.size≤B6):=by rw[Hid,hB6];exact hv.g.size
          have KC:=hide (rroom_any x.ps _ w4 ((hvp.G hv.g).G hg4) hxp)
          have HV4:=hide (hv.G hg4);have HB64:=hide hb6;have HIL:=hide hil;have HX:=hide hx;have HPN:Hid (pn=x.ps.length∧pn≤1048576):=⟨hpn,by omega⟩
          have HNL:Hid (n2=i∧n3≤2097152∧i≤1048576):=⟨by omega,by have:=hsz.n;have:=hsz.e;omega,by have:=hsz.e;omega⟩
          have c6:=hb6.cell
          clear hik hv hsz hszn hsze hkl hl1 hl3 hil hx q2 hr1 hvp hpn hxp hw4 hB6 hg4 hb6
          go_wp2_with (first|(rw[HE4.out];(try rw[HE6.out]);clear HE4)|fail)
          try rw[HE4.out]
          try rw[HE6.out]
          clear cG cS c6 x1 x2 x3 x4 x5
          refine KC.out.mono ?_
          rintro e w5 ⟨va,vn,vc,rfl,hs5,hf5,hg5⟩
          have hv5:=HV4.out.G hg5
          have hb65:=HB64.out.G hg5
          have hpn:=HPN.out
          have hnl:=HNL.out
          have hvn:=hs5.len_eq
          rw[rooms,List.length_append] at hvn
          have hvn2:vn=pn+2:=by simp at hvn;omega
          have hpc:vn≤vc:=by
            rcases hs5 with ⟨q,_⟩|⟨_,_,_,q,_,_,q2,_⟩
            · injection q with q1 q2 q3;omega
            · injection q with q1 q2' q3;omega
          have hmx:(4194304:Nat)≤maxLen:=of_decide_eq_true (by kernel_rfl)
          obtain⟨j0,hj0,hy0,hy1,hy2⟩:=info_Ps
          obtain⟨dR,hdR⟩:∃cR:Raw dRm.s,cR.1=[.slice va vn vc]:=⟨⟨[.slice va vn vc],rfl,fun u hu=>by simp at hu;rcases hu with rfl;rfl⟩,rfl⟩
          obtain⟨a5,c5,w7,r1,r2,r3,r4,r5⟩:=pushN (P:=Tryz.prog) (D:=dRm) (tr:=27) j0 _ 24 Tryz.underlying27 hj0 hy0 hy1 hy2 rfl (by decide) hv5.r dR (rooms x.ps) (by rw[hdR];exact⟨_,rfl,hs5⟩) (by decide) hv5.g hv5.fr (by omega) (by omega)
          rw[hdR] at r1
          have HR:=hide r1
          obtain⟨hb7,hv8,fx8⟩:=Gv.addR hv5 HSB.out r2 r3 r4 r5
          have hs8:=(hs5.fx r5 (by decide)).fx fx8 (by decide)
          have hb67:=hb65.fx r5 (by decide)
          have hb68:=hb67.fx fx8 (by decide)
          obtain⟨w8,hw8⟩:∃w,w=w7.setCell ⟨sb,2,none⟩ (.slice a5 (n3+1) c5):=⟨_,rfl⟩
          rw[←hw8] at hv8 fx8 hs8 hb68
          obtain⟨w9,hw9⟩:∃w,w=w8.setCell ⟨B6,4,none⟩ (.slice va pn vc):=⟨_,rfl⟩
          have fx9:Fx [72] [] w8 w9:=by rw[hw9];exact Fx.set hb68 (by simp)
          have hb69:Blk w9 B6 72 [I x.id,.string x.ty,I x.fr,I x.to,.slice va pn vc]:=by rw[hw9];exact hb68.set 4 _
          have hs9:=(hs8.take (m:=pn) (by omega)).fx fx9 (by decide)
          rw[hpn.1,rooms_take9,←hpn.1] at hs9
          have hn9:NRow dEo 72 w9 (.slice a2 n2 c2) (es.take i):=by rw[hw9];exact hv8.e.off (o:=4) (u:=.slice va pn vc) HNE.out hb68 (by intro q hq;simp at hq;subst hq;decide)
          have hv9:Gv W w9 sb B1 rb (.slice sa kn sc) (.slice (some ⟨g,o,none⟩) ke tc) ns (es.take i) ((ns.map fun y=>rooms y.ps)++(es.take (i+1)).map fun y=>rooms y.ps) (.slice a1 n1 c1) (.slice a2 n2 c2) (.slice a5 (n3+1) c5):=by
            refine⟨hv8.b.fx fx9 (by decide),hv8.n.fx fx9 (by decide) (by intro q hq;simp at hq;subst hq;decide),hn9,?_,hv8.fn,hv8.fe,hv8.fr,hv8.c.fx fx9 (by decide),hv8.q.fx fx9 (by decide),by rw[hw9];exact hv8.g.setCell HBW.out _⟩
            have:=hv8.r.fx fx9 (by decide) (by intro q hq;simp at hq;subst hq;decide)
            rw[List.take_add_one,HX.out,List.map_append,←List.append_assoc]
            exact this
          obtain⟨i0,hi0,hz0,hz1,hz2⟩:=info_E
          obtain⟨cR,hcR⟩:∃cR:Raw dEo.s,cR.1=[I x.id,.string x.ty,I x.fr,I x.to,.slice va pn vc]:=⟨⟨[I x.id,.string x.ty,I x.fr,I x.to,.slice va pn vc],rfl,fun u hu=>by simp at hu;rcases hu with rfl|rfl|rfl|rfl|rfl<;>rfl⟩,rfl⟩
          have HPU:Hid (∀wx bq,G w9 wx→Row (eR dEo.s).rel wx (.slice (some ⟨bq,0,none⟩) 1 1) [cR]→∃a cc w',(Builtin.append_ #[23,23] 23 #[.slice a2 n2 c2,.slice (some ⟨bq,0,none⟩) 1 1]).run Tryz.prog wx=.ok (.slice a (n2+1) cc) w'∧NRow dEo 72 w' (.slice a (n2+1) cc) (es.take (i+1))∧G W w'∧Fresh W (.slice a (n2+1) cc)∧Fx [72] [] w9 w'∧Chg (fun k=>(Value.slice a2 n2 c2).ownBlock=some k) w9 w'):=fun wx bq hA hL=>by
            rw[List.take_add_one,HX.out]
            exact pushNx (P:=Tryz.prog) (D:=dEo) (tr:=23) i0 _ 64 Tryz.underlying23 hi0 hz0 hz1 hz2 rfl (Nat.succ_pos _) hv9.e cR x (by rw[hcR];exact⟨_,rfl,hs9⟩) (by intro q hq;simp at hq;subst hq;decide) hv9.g hv9.fe hA hL (by omega) (by omega)
          have HCR:=hide hcR
          have H9:=hide hv9;have HB69:=hide hb69
          have HE8:Hid (w7.setCell ⟨sb,2,none⟩ (.slice a5 (n3+1) c5)=w8):=hw8.symm
          have HE9:Hid (w8.setCell ⟨B6,4,none⟩ (.slice va pn vc)=w9):=hw9.symm
          have cS5:=hv5.b.cell
          have cS7:=hb7.cell
          have zS7:=hb7.frozen
          have c68:=hb68.cell
          have z68:=hb68.frozen
          have hw1:wrap64 ((vn:Int)-2)=(pn:Int):=by unfold wrap64;omega
          have hv1:IntKind.i64.wrap ((vn:Int)-2)=(pn:Int):=by rw[Go.PlainAid.i64_is];exact hw1
          have hsl:(pn:Int)≤(vc:Int):=by omega
          clear hs5 hf5 hg5 hv5 hb65 hpn hnl hvn hvn2 hpc hmx hj0 hy0 hy1 hy2 hdR r1 r2 r3 r4 r5 hb7 hv8 fx8 hs8 hb67 hb68 hw8 hw9 fx9 hb69 hs9 hn9 hv9 hi0 hz0 hz1 hz2 hcR KC
          go_wp2_with (first|(at_builtin;refine wpList_append_run rfl _ _ 27 rfl (.slice a3 n3 c3) (.slice (some ⟨w5.heap.size,0,none⟩) 1 1) rfl rfl HR.out ?_)|(rw[HE8.out];clear HE8)|(rw[HE9.out];clear HE9)|fail)
          try rw[HE9.out]
          clear cS5 cS7 zS7 c68 z68
          refine wp_region_noPanic ?_
          refine wp_region_L (S:=(fun V=>(∀t,V.cell? ⟨sb,t,none⟩=([.slice a1 n1 c1,.slice a2 n2 c2,.slice a5 (n3+1) c5]:List Value)[t]?)∧(∀t,V.cell? ⟨B6,t,none⟩=([I x.id,.string x.ty,I x.fr,I x.to,.slice va pn vc]:List Value)[t]?))) 10 (by kernel_rfl) (⟨(H9.out.b.G (G.refl _).drew).cell,(HB69.out.G (G.refl _).drew).cell⟩) (fun hHeld=>?_)
          refine wpAnyL_take (i:=0) (v:=?_) rfl (by kernel_rfl) (by kernel_rfl) (by kernel_rfl) (by kernel_rfl) (fun _ _ _ h=>h) (Or.inl ⟨by rfl,?_⟩) hHeld ?_
          rotate_left 1
          · (intro w hSw;(try dsimp only at hSw);go_simp;try with_reducible rfl)
          try simp only[Act.put,List.getElem_toArray,List.getElem_cons_zero,List.setIfInBounds_toArray,List.set_cons_zero,List.set_cons_succ]
          refine wpAnyL_take (i:=1) (v:=?_) rfl (by kernel_rfl) (by kernel_rfl) (by kernel_rfl) (by kernel_rfl) (fun _ _ _ h=>h) (Or.inl ⟨by rfl,?_⟩) hHeld ?_
          rotate_left 1
          · (intro w hSw;(try dsimp only at hSw);go_simp;try with_reducible rfl)
          try simp only[Act.put,List.getElem_toArray,List.getElem_cons_zero,List.getElem_cons_succ,List.setIfInBounds_toArray,List.set_cons_zero,List.set_cons_succ]
          refine wpAnyL_take (i:=2) (v:=?_) rfl (by kernel_rfl) (by kernel_rfl) (by kernel_rfl) (by kernel_rfl) (fun _ _ _ h=>h) (Or.inl ⟨by rfl,?_⟩) hHeld ?_
          rotate_left 1
          · (intro w hSw;(try dsimp only at hSw);go_simp;try with_reducible rfl)
          try simp only[Act.put,List.getElem_toArray,List.getElem_cons_zero,List.getElem_cons_succ,List.setIfInBounds_toArray,List.set_cons_zero,List.set_cons_succ]
          refine wpAnyL_take (i:=3) (v:=?_) rfl (by kernel_rfl) (by kernel_rfl) (by kernel_rfl) (by kernel_rfl) (fun _ _ _ h=>h) (Or.inl ⟨by rfl,?_⟩) hHeld ?_
          rotate_left 1
          · (intro w hSw;(try dsimp only at hSw);go_simp;try with_reducible rfl)
          try simp only[Act.put,List.getElem_toArray,List.getElem_cons_zero,List.getElem_cons_succ,List.setIfInBounds_toArray,List.set_cons_zero,List.set_cons_succ]
          refine wpAnyL_take (i:=4) (v:=?_) rfl (by kernel_rfl) (by kernel_rfl) (by kernel_rfl) (by kernel_rfl) (fun _ _ _ h=>h) (Or.inl ⟨by rfl,?_⟩) hHeld ?_
          rotate_left 1
          · (intro w hSw;obtain⟨k1,k2⟩:=hSw;go_simp;try with_reducible rfl)
          try simp only[Act.put,List.getElem_toArray,List.getElem_cons_zero,List.getElem_cons_succ,List.setIfInBounds_toArray,List.set_cons_zero,List.set_cons_succ]
          refine wpAnyL_take (i:=5) (v:=?_) rfl (by kernel_rfl) (by kernel_rfl) (by kernel_rfl) (by kernel_rfl) (fun _ _ _ h=>h) (Or.inl ⟨by rfl,?_⟩) hHeld ?_
          rotate_left 1
          · (intro w hSw;obtain⟨k1,k2⟩:=hSw;go_simp;try with_reducible rfl)
          try simp only[Act.put,List.getElem_toArray,List.getElem_cons_zero,List.getElem_cons_succ,List.setIfInBounds_toArray,List.set_cons_zero,List.set_cons_succ]
          refine wpAnyL_one (i:=6) (by kernel_rfl) rfl (by kernel_rfl) (fun K hK=>?_)
          clear hHeld
          go_simp
          have HG10:Hid (G w9 (w9.alloc (.cells #[I x.id,.string x.ty,I x.fr,I x.to,.slice va pn vc] 72)).drew):=((G.refl w9).alloc _).drew
          have HL10:Hid (Row (eR dEo.s).rel (w9.alloc (.cells #[I x.id,.string x.ty,I x.fr,I x.to,.slice va pn vc] 72)).drew (.slice (some ⟨w9.heap.size,0,none⟩) 1 1) [cR]):=by
            have:=(Row.lit (E:=eR dEo.s) w9 72 [cR] 1 (by simp)).G (((G.refl _).drew))
            rw[show(eR dEo.s).fl [cR]=cR.1 by simp[Enc.fl],HCR.out] at this
            exact this
          generalize (w9.alloc (.cells #[I x.id,.string x.ty,I x.fr,I x.to,.slice va pn vc] 72)).drew=w10 at HG10 HL10⊢
          refine hK.out _ _ (⟨(H9.out.b.G HG10.out).cell,(HB69.out.G HG10.out).cell⟩) (fun hHeld=>?_)
          clear hK K
          try simp only[Act.put,List.getElem_toArray,List.getElem_cons_zero,List.getElem_cons_succ,List.setIfInBounds_toArray,List.set_cons_zero,List.set_cons_succ]
          refine wpAnyL_one (i:=7) (by kernel_rfl) rfl (by kernel_rfl) (fun K hK=>?_)
          clear hHeld
          obtain⟨a7,c7,w11,hrun,s2,s3,s4,s5,s6⟩:=HPU.out w10 w9.heap.size HG10.out HL10.out
          have HADD:=hide (Gv.addE H9.out HSB.out s2 s3 s4 s5)
          have HB611:=hide (HB69.out.chg s6 (fun e=>HNE.out e))
          clear s2 s3 s4 s5 s6
          refine(if_pos rfl).mpr ?_
          refine wp_of_exec (exec_append _ _ 23 rfl (.slice a2 n2 c2) (.slice (some ⟨w9.heap.size,0,none⟩) 1 1) rfl rfl 23 rfl hrun) ?_
          clear hrun
          refine hK.out _ _ (⟨HADD.out.1.cell,HB611.out.cell⟩) (fun hHeld=>?_)
          clear hK K
          try simp only[Act.put,List.getElem_toArray,List.getElem_cons_zero,List.getElem_cons_succ,List.setIfInBounds_toArray,List.set_cons_zero,List.set_cons_succ]
          refine wpAnyL_take2 9 (i:=8) (v:=?_) rfl (by kernel_rfl) (by kernel_rfl) (by kernel_rfl) (by kernel_rfl) (fun _ _ _ h=>h) (Or.inl ⟨by rfl,?_⟩) hHeld ?_
          rotate_left 1
          · (intro w hSw;(try dsimp only at hSw);go_simp;try with_reducible rfl)
          try simp only[Act.put,List.getElem_toArray,List.getElem_cons_zero,List.getElem_cons_succ,List.setIfInBounds_toArray,List.set_cons_zero,List.set_cons_succ]
          refine wpAnyL_take (i:=9) (v:=?_) rfl (by kernel_rfl) (by kernel_rfl) (by kernel_rfl) (by kernel_rfl) (fun _ _ _ h=>h) (Or.inl ⟨by rfl,?_⟩) hHeld ?_
          rotate_left 1
          · (intro w hSw;(try dsimp only at hSw);go_simp;try with_reducible rfl)
          try simp only[Act.put,List.getElem_toArray,List.getElem_cons_zero,List.getElem_cons_succ,List.setIfInBounds_toArray,List.set_cons_zero,List.set_cons_succ]
          refine wpAnyL_last (by kernel_rfl) rfl (by kernel_rfl) (fun K hK=>?_)
          clear hHeld
          have hc7:=HADD.out.1.cell
          have hz7:=HADD.out.1.frozen
          go_simp
          refine hK.out _ _ ?_
          clear hK K
          refine NoPanic.normal ?_
          have HFIN:=HADD.out.2.1
          clear HADD
          go_wp2_with fail
          exact⟨⟨i+1,a7,n2+1,c7,a5,n3+1,c5,by rw[HW.out];exact srl i,HIL.out,HFIN⟩,by rw[HW.out];exact sms HIL.out⟩
        · have i1:¬(i:Int)<(ke:Int):=by omega
          have htk:es.take i=es:=List.take_of_length_le (by omega)
          rw[htk] at hv
          have HV:=hide hv
          have HN1:Hid (n2=es.length∧n3=ns.length+es.length):=⟨by omega,by omega⟩
          clear hik hv hil htk hl1 hl3 hsz hszn hsze hkl
          have hk:=HK.out
          have hsz:=HSM.out
          have hn1:=HN1N.out
          have hn2:=HN1.out
          have hsn:=hsz.n
          have hse:=hsz.e
          have hmx:(4194304:Nat)≤maxLen:=of_decide_eq_true (by kernel_rfl)
          have hvx:=HV.out
          obtain⟨i0,hi0,hz0,hz1,hz2⟩:=info_N
          obtain⟨cR,hcR⟩:∃cR:Raw dNo.s,cR.1=[I (-91),.string {data:=#[]},.slice none 0 0]:=⟨⟨[I (-91),.string {data:=#[]},.slice none 0 0],rfl,fun u hu=>by simp at hu;rcases hu with rfl|rfl|rfl<;>rfl⟩,rfl⟩
          obtain⟨dR,hdR⟩:∃dR:Raw dNo.s,dR.1=[I (-92),.string {data:=#[]},.slice none 0 0]:=⟨⟨[I (-92),.string {data:=#[]},.slice none 0 0],rfl,fun u hu=>by simp at hu;rcases hu with rfl|rfl|rfl<;>rfl⟩,rfl⟩
          obtain⟨b0,d0,w7,r1,r2,r3,r4,r5⟩:=pushN2 (P:=Tryz.prog) (D:=dNo) (tr:=22) i0 _ 48 Tryz.underlying22 hi0 hz0 hz1 hz2 rfl (Nat.succ_pos _) hvx.n cR dR ndM[0] ndM[1] (by rw[hcR];exact⟨_,rfl,Sw.nil _ _ _⟩) (by rw[hdR];exact⟨_,rfl,Sw.nil _ _ _⟩) (by intro q hq;simp at hq;subst hq;decide) hvx.g hvx.fn (by omega) (by omega)
          rw[hcR,hdR] at r1
          have HR0:=hide r1
          have hadd0:=Gv.addN hvx HSB.out r2 r3 r4 r5
          obtain⟨w8,hww8⟩:∃w,w=w7.setCell ⟨sb,0,none⟩ (.slice b0 (n1+2) d0):=⟨_,rfl⟩
          rw[←hww8] at hadd0
          have HE0:Hid (w7.setCell ⟨sb,0,none⟩ (.slice b0 (n1+2) d0)=w8):=hww8.symm
          have cA0:=hvx.b.cell
          have cB0:=hadd0.1.cell
          have zB0:=hadd0.1.frozen
          clear hi0 hz0 hz1 hz2 hcR hdR r1 r2 r3 r4 r5 hww8 cR dR
          have hv8:=hadd0.2.1
          obtain⟨i0,hi0,hz0,hz1,hz2⟩:=info_E
          obtain⟨cR,hcR⟩:∃cR:Raw dEo.s,cR.1=[I (-91),.string {data:=#[]},I 0,I 0,.slice none 0 0]:=⟨⟨[I (-91),.string {data:=#[]},I 0,I 0,.slice none 0 0],rfl,fun u hu=>by simp at hu;rcases hu with rfl|rfl|rfl|rfl|rfl<;>rfl⟩,rfl⟩
          obtain⟨dR,hdR⟩:∃dR:Raw dEo.s,dR.1=[I (-92),.string {data:=#[]},I 0,I 0,.slice none 0 0]:=⟨⟨[I (-92),.string {data:=#[]},I 0,I 0,.slice none 0 0],rfl,fun u hu=>by simp at hu;rcases hu with rfl|rfl|rfl|rfl|rfl<;>rfl⟩,rfl⟩
          obtain⟨b1,d1,w11,r1,r2,r3,r4,r5⟩:=pushN2 (P:=Tryz.prog) (D:=dEo) (tr:=23) i0 _ 64 Tryz.underlying23 hi0 hz0 hz1 hz2 rfl (Nat.succ_pos _) hv8.e cR dR edM[0] edM[1] (by rw[hcR];exact⟨_,rfl,Sw.nil _ _ _⟩) (by rw[hdR];exact⟨_,rfl,Sw.nil _ _ _⟩) (by intro q hq;simp at hq;subst hq;decide) hv8.g hv8.fe (by omega) (by omega)
          rw[hcR,hdR] at r1
          have HR1:=hide r1
          have hadd1:=Gv.addE hv8 HSB.out r2 r3 r4 r5
          obtain⟨w12,hww12⟩:∃w,w=w11.setCell ⟨sb,1,none⟩ (.slice b1 (n2+2) d1):=⟨_,rfl⟩
          rw[←hww12] at hadd1
          have HE1:Hid (w11.setCell ⟨sb,1,none⟩ (.slice b1 (n2+2) d1)=w12):=hww12.symm
          have cA1:=hv8.b.cell
          have cB1:=hadd1.1.cell
          have zB1:=hadd1.1.frozen
          clear hi0 hz0 hz1 hz2 hcR hdR r1 r2 r3 r4 r5 hww12 cR dR
          have HV12:=hide hadd1.2.1
          have hp0:n1+2≤d0:=by
            obtain⟨rs,q1,q2,_⟩:=hadd1.2.1.n
            rcases q1 with ⟨q,_⟩|⟨_,_,_,q,_,_,q2,_⟩
            · injection q with q3 q4 q5;omega
            · injection q with q3 q4 q5;omega
          have hp1:n2+2≤d1:=by
            obtain⟨rs,q1,q2,_⟩:=hadd1.2.1.e
            rcases q1 with ⟨q,_⟩|⟨_,_,_,q,_,_,q2,_⟩
            · injection q with q3 q4 q5;omega
            · injection q with q3 q4 q5;omega
          have hs0:(kn:Int)≤(d0:Int):=by omega
          have hs1:(ke:Int)≤(d1:Int):=by omega
          have HNN:Hid (kn=ns.length∧ke=es.length∧n1=ns.length∧n2=es.length∧n3=ns.length+es.length):=⟨hk.1,hk.2,by omega,by omega,by omega⟩
          clear hk hsz hn1 hn2 hsn hse hmx hvx hv8 hadd0 hadd1 hp0 hp1
          go_wp2_with (first|(at_builtin;refine wpList_append_run rfl _ _ 22 rfl (.slice a1 n1 c1) (.slice (some ⟨wr.heap.size,0,none⟩) 2 2) rfl rfl (by simpa using HR0.out) ?_)|(at_builtin;refine wpList_append_run rfl _ _ 23 rfl (.slice a2 n2 c2) (.slice (some ⟨w8.heap.size,0,none⟩) 2 2) rfl rfl (by simpa using HR1.out) ?_)|(rw[HE0.out];clear HE0)|(rw[HE1.out];clear HE1)|fail)
          try rw[HE1.out]
          clear cA0 cB0 zB0 cA1 cB1 zB1 cG cS
          refine wp_region_noPanic ?_
          refine wp_region_held_drew (S:=(fun V=>(∀t,V.cell? ⟨sb,t,none⟩=([.slice b0 (n1+2) d0,.slice b1 (n2+2) d1,.slice a3 n3 c3]:List Value)[t]?)∧(∀t,V.cell? ⟨B1,t,none⟩=([.slice sa kn sc,.slice ta ke tc]:List Value)[t]?))) (by kernel_rfl) (⟨(HV12.out.b.G (G.refl _).drew).cell,(HV12.out.c.G (G.refl _).drew).cell⟩) (fun hHeld=>?_)
          refine wpAnyH_take (i:=0) (v:=?_) rfl (by kernel_rfl) (by kernel_rfl) (by kernel_rfl) (fun _ _ _ h=>h) (Or.inl ⟨by rfl,?_⟩) hHeld ?_
          rotate_left 1
          · (intro w hSw;(try dsimp only at hSw);go_simp;try with_reducible rfl)
          try simp only[Act.put,List.getElem_toArray,List.getElem_cons_zero,List.setIfInBounds_toArray,List.set_cons_zero,List.set_cons_succ]
          refine wpAnyH_take (i:=1) (v:=?_) rfl (by kernel_rfl) (by kernel_rfl) (by kernel_rfl) (fun _ _ _ h=>h) (Or.inl ⟨by rfl,?_⟩) hHeld ?_
          rotate_left 1
          · (intro w hSw;(try dsimp only at hSw);go_simp;try with_reducible rfl)
          try simp only[Act.put,List.getElem_toArray,List.getElem_cons_zero,List.getElem_cons_succ,List.setIfInBounds_toArray,List.set_cons_zero,List.set_cons_succ]
          refine wpAnyH_take (i:=2) (v:=?_) rfl (by kernel_rfl) (by kernel_rfl) (by kernel_rfl) (fun _ _ _ h=>h) (Or.inl ⟨by rfl,?_⟩) hHeld ?_
          rotate_left 1
          · (intro w hSw;(try dsimp only at hSw);go_simp;try with_reducible rfl)
          try simp only[Act.put,List.getElem_toArray,List.getElem_cons_zero,List.getElem_cons_succ,List.setIfInBounds_toArray,List.set_cons_zero,List.set_cons_succ]
          refine wpAnyH_take (i:=3) (v:=?_) rfl (by kernel_rfl) (by kernel_rfl) (by kernel_rfl) (fun _ _ _ h=>h) (Or.inl ⟨by rfl,?_⟩) hHeld ?_
          rotate_left 1
          · (intro w hSw;obtain⟨k1,k2⟩:=hSw;go_simp;try with_reducible rfl)
          try simp only[Act.put,List.getElem_toArray,List.getElem_cons_zero,List.getElem_cons_succ,List.setIfInBounds_toArray,List.set_cons_zero,List.set_cons_succ]
          refine wpAnyH_take (i:=4) (v:=?_) rfl (by kernel_rfl) (by kernel_rfl) (by kernel_rfl) (fun _ _ _ h=>h) (Or.inl ⟨by rfl,?_⟩) hHeld ?_
          rotate_left 1
          · (intro w hSw;(try dsimp only at hSw);go_simp;try with_reducible rfl)
          try simp only[Act.put,List.getElem_toArray,List.getElem_cons_zero,List.getElem_cons_succ,List.setIfInBounds_toArray,List.set_cons_zero,List.set_cons_succ]
          refine wpAnyH_take (i:=5) (v:=?_) rfl (by kernel_rfl) (by kernel_rfl) (by kernel_rfl) (fun _ _ _ h=>h) (Or.inl ⟨by rfl,?_⟩) hHeld ?_
          rotate_left 1
          · (intro w hSw;obtain⟨k1,k2⟩:=hSw;go_simp;try with_reducible rfl)
          try simp only[Act.put,List.getElem_toArray,List.getElem_cons_zero,List.getElem_cons_succ,List.setIfInBounds_toArray,List.set_cons_zero,List.set_cons_succ]
          refine wpAnyH_take (i:=6) (v:=?_) rfl (by kernel_rfl) (by kernel_rfl) (by kernel_rfl) (fun _ _ _ h=>h) (Or.inl ⟨by rfl,?_⟩) hHeld ?_
          rotate_left 1
          · (intro w hSw;(try dsimp only at hSw);go_simp;try with_reducible rfl)
          try simp only[Act.put,List.getElem_toArray,List.getElem_cons_zero,List.getElem_cons_succ,List.setIfInBounds_toArray,List.set_cons_zero,List.set_cons_succ]
          refine wpAnyH_take (i:=7) (v:=?_) rfl (by kernel_rfl) (by kernel_rfl) (by kernel_rfl) (fun _ _ _ h=>h) (Or.inl ⟨by rfl,?_⟩) hHeld ?_
          rotate_left 1
          · (intro w hSw;(try dsimp only at hSw);go_simp;try with_reducible rfl)
          try simp only[Act.put,List.getElem_toArray,List.getElem_cons_zero,List.getElem_cons_succ,List.setIfInBounds_toArray,List.set_cons_zero,List.set_cons_succ]
          refine wpAnyH_take (i:=8) (v:=?_) rfl (by kernel_rfl) (by kernel_rfl) (by kernel_rfl) (fun _ _ _ h=>h) (Or.inl ⟨by rfl,?_⟩) hHeld ?_
          rotate_left 1
          · (intro w hSw;(try dsimp only at hSw);go_simp;try with_reducible rfl)
          try simp only[Act.put,List.getElem_toArray,List.getElem_cons_zero,List.getElem_cons_succ,List.setIfInBounds_toArray,List.set_cons_zero,List.set_cons_succ]
          refine wpAnyH_take (i:=9) (v:=?_) rfl (by kernel_rfl) (by kernel_rfl) (by kernel_rfl) (fun _ _ _ h=>h) (Or.inl ⟨by rfl,?_⟩) hHeld ?_
          rotate_left 1
          · (intro w hSw;(try dsimp only at hSw);go_simp;try with_reducible rfl)
          try simp only[Act.put,List.getElem_toArray,List.getElem_cons_zero,List.getElem_cons_succ,List.setIfInBounds_toArray,List.set_cons_zero,List.set_cons_succ]
          refine wpAnyH_take (i:=10) (v:=?_) rfl (by kernel_rfl) (by kernel_rfl) (by kernel_rfl) (fun _ _ _ h=>h) (Or.inl ⟨by rfl,?_⟩) hHeld ?_
          rotate_left 1
          · (intro w hSw;(try dsimp only at hSw);go_simp;try with_reducible rfl)
          try simp only[Act.put,List.getElem_toArray,List.getElem_cons_zero,List.getElem_cons_succ,List.setIfInBounds_toArray,List.set_cons_zero,List.set_cons_succ]
          refine wpAnyH_take (i:=11) (v:=?_) rfl (by kernel_rfl) (by kernel_rfl) (by kernel_rfl) (fun _ _ _ h=>h) (Or.inl ⟨by rfl,?_⟩) hHeld ?_
          rotate_left 1
          · (intro w hSw;obtain⟨k1,k2⟩:=hSw;go_simp;try with_reducible rfl)
          try simp only[Act.put,List.getElem_toArray,List.getElem_cons_zero,List.getElem_cons_succ,List.setIfInBounds_toArray,List.set_cons_zero,List.set_cons_succ]
          refine wpAnyH_take (i:=12) (v:=?_) rfl (by kernel_rfl) (by kernel_rfl) (by kernel_rfl) (fun _ _ _ h=>h) (Or.inl ⟨by rfl,?_⟩) hHeld ?_
          rotate_left 1
          · (intro w hSw;(try dsimp only at hSw);go_simp;try with_reducible rfl)
          try simp only[Act.put,List.getElem_toArray,List.getElem_cons_zero,List.getElem_cons_succ,List.setIfInBounds_toArray,List.set_cons_zero,List.set_cons_succ]
          refine wpAnyH_take (i:=13) (v:=?_) rfl (by kernel_rfl) (by kernel_rfl) (by kernel_rfl) (fun _ _ _ h=>h) (Or.inl ⟨by rfl,?_⟩) hHeld ?_
          rotate_left 1
          · (intro w hSw;obtain⟨k1,k2⟩:=hSw;go_simp;try with_reducible rfl)
          try simp only[Act.put,List.getElem_toArray,List.getElem_cons_zero,List.getElem_cons_succ,List.setIfInBounds_toArray,List.set_cons_zero,List.set_cons_succ]
          refine wpAnyH_take (i:=14) (v:=?_) rfl (by kernel_rfl) (by kernel_rfl) (by kernel_rfl) (fun _ _ _ h=>h) (Or.inl ⟨by rfl,?_⟩) hHeld ?_
          rotate_left 1
          · (intro w hSw;(try dsimp only at hSw);go_simp;try with_reducible rfl)
          try simp only[Act.put,List.getElem_toArray,List.getElem_cons_zero,List.getElem_cons_succ,List.setIfInBounds_toArray,List.set_cons_zero,List.set_cons_succ]
          refine wpAnyH_take (i:=15) (v:=?_) rfl (by kernel_rfl) (by kernel_rfl) (by kernel_rfl) (fun _ _ _ h=>h) (Or.inl ⟨by rfl,?_⟩) hHeld ?_
          rotate_left 1
          · (intro w hSw;(try dsimp only at hSw);go_simp;try with_reducible rfl)
          try simp only[Act.put,List.getElem_toArray,List.getElem_cons_zero,List.getElem_cons_succ,List.setIfInBounds_toArray,List.set_cons_zero,List.set_cons_succ]
          refine wpAnyH_take (i:=16) (v:=?_) rfl (by kernel_rfl) (by kernel_rfl) (by kernel_rfl) (fun _ _ _ h=>h) (Or.inl ⟨by rfl,?_⟩) hHeld ?_
          rotate_left 1
          · (intro w hSw;(try dsimp only at hSw);go_simp;try with_reducible rfl)
          try simp only[Act.put,List.getElem_toArray,List.getElem_cons_zero,List.getElem_cons_succ,List.setIfInBounds_toArray,List.set_cons_zero,List.set_cons_succ]
          refine wpAnyH_take (i:=17) (v:=?_) rfl (by kernel_rfl) (by kernel_rfl) (by kernel_rfl) (fun _ _ _ h=>h) (Or.inl ⟨by rfl,?_⟩) hHeld ?_
          rotate_left 1
          · (intro w hSw;(try dsimp only at hSw);go_simp;try with_reducible rfl)
          try simp only[Act.put,List.getElem_toArray,List.getElem_cons_zero,List.getElem_cons_succ,List.setIfInBounds_toArray,List.set_cons_zero,List.set_cons_succ]
          refine wpAnyH_ready (rs:=[18]) (by kernel_rfl) (by simp) (AllReadyH.cons rfl (fun K hK=>?_) AllReadyH.nil)
          clear hHeld
          have hrb9:=(HV12.out.q.G (G.refl w12).drew)
          have HTH:Hid (w12.drew.there rb 0 2):=fun j hj=>⟨by rw[hrb9.cell,List.getElem?_eq_getElem (by simp;omega)];rfl,hrb9.frozen _⟩
          have HC9:=hide ((hrb9.set 0 (.slice b0 kn d0)).set 1 (.slice b1 ke d1))
          have HG9:Hid (G W ((w12.drew.setCell ⟨rb,0,none⟩ (.slice b0 kn d0)).setCell ⟨rb,1,none⟩ (.slice b1 ke d1))):=((HV12.out.g.drew).setCell HRB.out.1 _).setCell HRB.out.1 _
          have k9:Fx [25] [] w12.drew ((w12.drew.setCell ⟨rb,0,none⟩ (.slice b0 kn d0)).setCell ⟨rb,1,none⟩ (.slice b1 ke d1)):=(Fx.set hrb9 (by simp) (o:=0) (v:=.slice b0 kn d0)).trans (Fx.set (hrb9.set 0 _) (by simp) (o:=1) (v:=.slice b1 ke d1))
          have k8:Fx [25] [] w12 ((w12.drew.setCell ⟨rb,0,none⟩ (.slice b0 kn d0)).setCell ⟨rb,1,none⟩ (.slice b1 ke d1)):=(Fx.of_G (G.refl w12).drew).trans k9
          have HF9:Hid (Blk ((w12.drew.setCell ⟨rb,0,none⟩ (.slice b0 kn d0)).setCell ⟨rb,1,none⟩ (.slice b1 ke d1)) sb 119 [.slice b0 (n1+2) d0,.slice b1 (n2+2) d1,.slice a3 n3 c3]∧NRow dNo 69 ((w12.drew.setCell ⟨rb,0,none⟩ (.slice b0 kn d0)).setCell ⟨rb,1,none⟩ (.slice b1 ke d1)) (.slice b0 (n1+2) d0) (ns++ndM)∧NRow dEo 72 ((w12.drew.setCell ⟨rb,0,none⟩ (.slice b0 kn d0)).setCell ⟨rb,1,none⟩ (.slice b1 ke d1)) (.slice b1 (n2+2) d1) (es++edM)∧NRow dRm 42 ((w12.drew.setCell ⟨rb,0,none⟩ (.slice b0 kn d0)).setCell ⟨rb,1,none⟩ (.slice b1 ke d1)) (.slice a3 n3 c3) ((ns.map fun y=>rooms y.ps)++es.map fun y=>rooms y.ps)):=⟨HV12.out.b.fx k8 (by decide),HV12.out.n.fx k8 (by decide) (by intro q hq;simp at hq;subst hq;decide),HV12.out.e.fx k8 (by decide) (by intro q hq;simp at hq;subst hq;decide),HV12.out.r.fx k8 (by decide) (by intro q hq;simp at hq;subst hq;decide)⟩
          have HS9:Hid ((∀t,((w12.drew.setCell ⟨rb,0,none⟩ (.slice b0 kn d0)).setCell ⟨rb,1,none⟩ (.slice b1 ke d1)).cell? ⟨sb,t,none⟩=([.slice b0 (n1+2) d0,.slice b1 (n2+2) d1,.slice a3 n3 c3]:List Value)[t]?)∧(∀t,((w12.drew.setCell ⟨rb,0,none⟩ (.slice b0 kn d0)).setCell ⟨rb,1,none⟩ (.slice b1 ke d1)).cell? ⟨B1,t,none⟩=([.slice sa kn sc,.slice ta ke tc]:List Value)[t]?)):=⟨HF9.out.1.cell,((((HV12.out.c.G (G.refl _).drew).off (b:=rb) (o:=0) (v:=.slice b0 kn d0) HRB.out.2).off (b:=rb) (o:=1) (v:=.slice b1 ke d1) HRB.out.2)).cell⟩
          clear hrb9 k9 k8
          refine(if_pos rfl).mpr ?_
          refine wp_store_mid 25 _ _ rfl rb 0 #[.slice b0 kn d0,.slice b1 ke d1] rfl rfl HTH.out (by kernel_rfl) (all_oneCell_toArray (cs:=[.slice b0 kn d0,.slice b1 ke d1]) (fun v hv=>by simp at hv;rcases hv with rfl|rfl<;>rfl)) ?_
          refine hK.out _ _ (⟨HS9.out.1,HS9.out.2⟩) (fun hHeld=>?_)
          clear hK K
          try simp only[Act.put,List.getElem_toArray,List.getElem_cons_zero,List.getElem_cons_succ]
          refine wpAnyH_take (i:=19) (v:=?_) rfl (by kernel_rfl) (by kernel_rfl) (by kernel_rfl) (fun _ _ _ h=>h) (Or.inl ⟨by rfl,?_⟩) hHeld ?_
          rotate_left 1
          · (intro w hSw;(try dsimp only at hSw);go_simp;try with_reducible rfl)
          try simp only[Act.put,List.getElem_toArray,List.getElem_cons_zero,List.getElem_cons_succ,List.setIfInBounds_toArray,List.set_cons_zero,List.set_cons_succ]
          refine wpAnyH_done (by kernel_rfl) ?_ _
          refine NoPanic.normal ?_
          go_wp2_with fail
          obtain⟨z1,z2,z3,z4,z5⟩:=HNN.out
          subst z1 z2 z3 z4 z5
          refine bodyPost_ret_by (v:=.tuple #[.agg #[.slice b0 ns.length d0,.slice b1 es.length d1],ptr sb]) (retGv _ _ rb _ _ rfl rfl HC9.out rfl) rfl ?_
          unfold GiveP
          exact⟨sb,b0,d0,b1,d1,a3,c3,rfl,HF9.out,HSB.out,HG9.out⟩
end Go.Proofs.YtifioikdhfhljaaGreatDoor
