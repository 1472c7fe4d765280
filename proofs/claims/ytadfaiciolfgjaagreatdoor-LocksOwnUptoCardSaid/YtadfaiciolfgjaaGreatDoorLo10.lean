import Derived.Test.YtadfaiciolfgjaaGreatDoorLo8
import Derived.Test.YtadfaiciolfgjaaGreatDoorLo4
namespace Go.Proofs.YtadfaiciolfgjaaGreatDoor
open Go.Proofs.Tryz
set_option maxHeartbeats 8000000
set_option maxRecDepth 100000
section
open Go.RowKit
theorem HasTy.blk{w:World}{b e:Nat}(h:HasTy w b e):∃xs,Blk w b e xs:=by
 obtain⟨cur,h⟩:=h
 exact⟨cur.toList,⟨by simpa using h⟩⟩
noncomputable def Gs.free(s:Gs)(u:Value):Gs:=⟨s.lb,s.pb,s.lv,s.pl,fun b=>if u.ownBlock=some b then none else s.own b⟩
theorem free_no{s:Gs}{u:Value}{b:Nat}(h:u.ownBlock=some b):(s.free u).own b=none:=by show(if _ then _ else _)=_;rw[if_pos h]
theorem free_yes{s:Gs}{u:Value}{b:Nat}{tg:Tg}(h:u.ownBlock≠some b)(k:s.own b=some tg):(s.free u).own b=some tg:=by show(if _ then _ else _)=_;rw[if_neg h];exact k
theorem free_of{s:Gs}{u:Value}{b:Nat}{tg:Tg}(h:(s.free u).own b=some tg):u.ownBlock≠some b∧s.own b=some tg:=by
 by_cases e:u.ownBlock=some b
 ·rw[free_no e] at h;cases h
 ·refine⟨e,?_⟩
  have:(if u.ownBlock=some b then none else s.own b)=some tg:=h
  rw[if_neg e] at this
  exact this
section
variable {w w':World} {t lo n:Nat} {s s':Gs} {m:Ms} {L:List Int} {LR:List Rs} {u:Value} {xs:List Value}
theorem GT.free(h:GT w t s m L LR)(hu:w.ownsRow lo 3 1 u n xs):GT w t (s.free u) m L LR:=by
 have hB:∀{g e:Nat} {ys:List Value},Blk w g e ys→3≠e→u.ownBlock≠some g:=fun hb he=>own_ne hu hb he
 have hT:=h.tt
 refine⟨⟨hT.tb,hT.lm,hT.pm,fun x p e=>?_,fun r p e=>?_,free_yes (hB hT.tb (by decide)) hT.o1,free_yes (fun e=>?_) hT.o2,free_yes (fun e=>?_) hT.o3,fun b tg e=>hT.lt b tg (free_of e).2⟩,h.tb,⟨?_,?_⟩,⟨h.ab.lv,h.ab.yes,h.ab.no⟩,h.iv⟩
 ·have hp:=hT.pt x p e
  refine⟨hp.blk,hp.hm,hp.wm,free_yes (hB hp.blk (by decide)) hp.t1,free_yes (fun e=>?_) hp.t2,free_yes (fun e=>?_) hp.t3⟩
  ·obtain⟨ys,hy⟩:=(own_ty hu e).blk;exact hp.hm.ne hy rfl
  ·obtain⟨ys,hy⟩:=(own_ty hu e).blk;exact hp.wm.ne hy rfl
 ·have hp:=hT.pl r p e
  refine⟨hp.blk,hp.hm,hp.q,free_yes (hB hp.blk (by decide)) hp.t1,free_yes (fun e=>?_) hp.t2,fun b e=>free_yes (fun e2=>?_) (hp.t3 b e)⟩
  ·obtain⟨ys,hy⟩:=(own_ty hu e).blk;exact hp.hm.ne hy rfl
  ·rcases hp.q with ⟨e3,-⟩|⟨g,cap,rest,e3,hb,-⟩
   ·rw[e3] at e;simp[Value.ownBlock] at e
   ·rw[e3] at e
    have:g=b:=by simpa [Value.ownBlock] using e
    subst this
    exact hB hb (by decide) e2
 ·obtain⟨ys,hy⟩:=(own_ty hu e).blk;exact hT.lm.ne hy rfl
 ·obtain⟨ys,hy⟩:=(own_ty hu e).blk;exact hT.pm.ne hy rfl
 ·cases e:(s.free u).own 1 with
  | none=>rfl
  | some tg=>have:=(free_of e).2;rw[h.gl.1] at this;cases this
 ·cases e:(s.free u).own 0 with
  | none=>rfl
  | some tg=>have:=(free_of e).2;rw[h.gl.2] at this;cases this
theorem Ext.free2(h:Ext w w' s s')(hT:TT w t s)(hu:∀b,u.ownBlock=some b→w.heap.size≤b):Ext w w' s (s'.free u):=
 ⟨h.chg,fun b tg e=>free_yes (fun e2=>by have h1:=hT.lt b tg e;have h2:=hu b e2;omega) (h.old b tg e),fun b tg e=>h.new b tg (free_of e).2⟩
end
def PNu(w w':World)(t b:Nat)(L:List Int)(LR:List Rs)(s:Gs)(D:Nat→Prop)(c:Nat)(u:Value):Prop:=∃m' s' R' D',PQ w' t b m' L LR s' R' D' c∧Chg (PB s D) w w'∧(∀k,PB s' D' k→PB s D k∨w.heap.size≤k)∧∀k,u.ownBlock=some k→¬PB s' D' k
theorem PN.u{w w':World}{t b c:Nat}{L:List Int}{LR:List Rs}{s:Gs}{D:Nat→Prop}(h:PN w w' t b L LR s D c):PNu w w' t b L LR s D c (.slice none 0 0):=by
 obtain⟨m',s',R',D',h1,h2,h3⟩:=h
 exact⟨m',s',R',D',h1,h2,h3,fun k e=>by simp[Value.ownBlock] at e⟩
theorem PNu.two{w w1 w':World}{t b c c1 n:Nat}{L:List Int}{LR:List Rs}{s s':Gs}{D:Nat→Prop}{m m':Ms}{R:Rt}{u:Value}{xs:List Value}(h:PQ w t b m L LR s R D c)(hE:Ext w w1 s s')(hg:GT w1 t s' m' L LR)(hu:w1.ownsRow w.heap.size 3 1 u n xs)(hx:RX w1 w' b D m' c1 c1):PNu w w' t b L LR s D c1 u:=by
 have hub:∀k,u.ownBlock=some k→w.heap.size≤k∧k<w1.heap.size:=fun k e=>World.ownsRow.lt hu k e
 obtain⟨h1,h2,h3⟩:=h.prog (hE.free2 h.gt.tt (fun k e=>(hub k e).1)) (hg.free hu)
 obtain⟨R',D',h4,h5,h6⟩:=h1.doc hx
 refine⟨m',s'.free u,R',D',h4,h2.more h5 (fun i hi hk=>?_),fun k hk=>?_,fun k e hk=>?_⟩
 ·rcases h3 i hk with h7|h7
  ·exact h7
  ·omega
 ·rcases h6 k hk with h7|h7
  ·exact h3 k h7
  ·exact .inr (Nat.le_trans h2.size h7)
 ·have hb:=hub k e
  rcases h6 k hk with h7|h7
  ·rcases h7 with h7|h7
   ·exact h7 (free_no e)
   ·have:=h.dl (.inr h7);omega
  ·omega
theorem PNu.G{w w' w2:World}{t b c:Nat}{L:List Int}{LR:List Rs}{s:Gs}{D:Nat→Prop}{u:Value}(h:PNu w w' t b L LR s D c u)(g:Go.Proofs.YtadfaiciolfgjaaGreatDoor.G w' w2):PNu w w2 t b L LR s D c u:=by
 obtain⟨m',s',R',D',h1,h2,h3,h4⟩:=h
 exact⟨m',s',R',D',h1.G g,h2.trans g.chg,h3,h4⟩
theorem PNu.tws{W0 w w':World}{tw c j:Nat}{L:List Int}{LR:List Rs}{t b:Nat→Nat}{m:Nat→Ms}{s:Nat→Gs}{R:Nat→Rt}{D:Nat→Nat→Prop}{u:Value}(h:TWs W0 w tw L LR c t b m s R D)(hj:j<2)(hn:PNu w w' (t j) (b j) L LR (s j) (D j) (c+1) u)(hu:∀k,u.ownBlock=some k→w.heap.size≤k∧k<w'.heap.size):∃m' s' R' D',TWs W0 w' tw L LR (c+1) t b m' s' R' D'∧(∀i,i<2→∀k,PB (s' i) (D' i) k→PB (s i) (D i) k∨w.heap.size≤k)∧∀i,i<2→∀k,u.ownBlock=some k→¬PB (s' i) (D' i) k:=by
 obtain⟨m',s',R',D',hq,hc,hn,hun⟩:=hn
 have htw:tw<w.heap.size:=cell_lt' (v:=ptr (t 0)) (h.blk.cell 0)
 have hsz:=h.gg.size
 refine⟨fun i=>if i=j then m' else m i,fun i=>if i=j then s' else s i,fun i=>if i=j then R' else R i,fun i=>if i=j then D' else D i,⟨h.blk.chg hc (h.tn j hj),fun i hi=>?_,fun i1 i2 k h1 h2 hne=>?_,fun i hi=>?_,fun i hi k=>?_,h.tl,h.gg.of_chg hc (h.nw j hj)⟩,fun i hi k=>?_,fun i hi k e5=>?_⟩
 ·by_cases e:i=j
  ·subst e;simp only[if_pos];exact hq
  ·simp only[if_neg e]
   have hp:=h.pq j hj
   exact((h.pq i hi).far hc (fun k hk hh=>h.ap i j k hi hj e hk hh) ⟨fun hh=>hh.elim (fun h5=>h5 hp.gt.gl.1) hp.dg.1,fun hh=>hh.elim (fun h5=>h5 hp.gt.gl.2) hp.dg.2⟩).more (Nat.le_succ _)
 ·by_cases e1:i1=j
  ·have e2:¬i2=j:=fun e=>hne (e1.trans e.symm)
   simp only[if_pos e1,if_neg e2]
   intro hk hh
   rcases hn k hk with h5|h5
   ·exact h.ap i2 j k h2 hj e2 hh h5
   ·have:=(h.pq i2 h2).dl hh;omega
  ·simp only[if_neg e1]
   by_cases e2:i2=j
   ·simp only[if_pos e2]
    intro hh hk
    rcases hn k hk with h5|h5
    ·exact h.ap i1 j k h1 hj e1 hh h5
    ·have:=(h.pq i1 h1).dl hh;omega
   ·simp only[if_neg e2]
    exact h.ap i1 i2 k h1 h2 hne
 ·by_cases e:i=j
  ·simp only[if_pos e]
   intro hk
   rcases hn _ hk with h5|h5
   ·exact h.tn j hj h5
   ·omega
  ·simp only[if_neg e];exact h.tn i hi
 ·by_cases e:i=j
  ·simp only[if_pos e]
   intro hk
   rcases hn _ hk with h5|h5
   ·exact h.nw j hj k h5
   ·omega
  ·simp only[if_neg e];exact h.nw i hi k
 ·by_cases e:i=j
  ·subst e
   simp only[if_pos]
   exact hn k
  ·simp only[if_neg e]
   exact .inl
 ·by_cases e:i=j
  ·subst e
   simp only[if_pos]
   exact hun k e5
  ·simp only[if_neg e]
   intro hk
   have h6:=(h.pq i hi).dl hk
   have h7:=hu k e5
   omega
theorem tws_cells{W0 w:World}{tw c:Nat}{L:List Int}{LR:List Rs}{t b:Nat→Nat}{m:Nat→Ms}{s:Nat→Gs}{R:Nat→Rt}{D:Nat→Nat→Prop}(h:TWs W0 w tw L LR c t b m s R D){j:Nat}(hj:j<2):w.cell? ⟨tw,j,none⟩=some (ptr (t j))∧w.cell? ⟨tw,2+j,none⟩=some (ptr (b j))∧tw<w.heap.size:=by
 refine⟨?_,?_,cell_lt' (v:=ptr (t 0)) (h.blk.cell 0)⟩
 ·rcases(show j=0∨j=1 by omega)with e|e
  ·rw[e];exact h.blk.cell 0
  ·rw[e];exact h.blk.cell 1
 ·rcases(show j=0∨j=1 by omega)with e|e
  ·rw[e];exact h.blk.cell 2
  ·rw[e];exact h.blk.cell 3
theorem step_pn{W0 w:World}{tw c j:Nat}{L:List Int}{LR:List Rs}{t b:Nat→Nat}{m:Nat→Ms}{s:Nat→Gs}{R:Nat→Rt}{D:Nat→Nat→Prop}(h:TWs W0 w tw L LR c t b m s R D)(kd who x st md:Int)(r:Rs)(hj:j<2)(hw:bits BinOp.and IntKind.i64 who 1=(j:Int))(hx:R64 x)(hxl:x∈L)(hr:r∈LR)(hro:r.ok)(hL:L.length<100000000000)(hLR:LR.length<2000000000000)(hc:c<200000000000)(hcL:c*L.length<2000000000000)(e2:¬kd=2)(e3:¬kd=3) :
  Calls prog 10 #[ptr tw,.agg #[I kd,I who,I x,I st,I r.lv,.string r.lb,I r.id,I md]] w fun e w'=>e=.returned (.bool true)∧PN w w' (t j) (b j) L LR (s j) (D j) (c+1):=by
 obtain⟨k1,k2,htw⟩:=tws_cells h hj
 by_cases e1:kd=1
 ·rw[e1];exact step_begin (h.pq j hj) who x st md r hj hw k1 k2 htw hx hxl hr hro hL hLR hc hcL
 by_cases e4:kd=4
 ·rw[e4];exact step_mode (h.pq j hj) who x st md r hj hw k1 k2 htw hx hxl hr hro hL hLR hc hcL
 by_cases e5:kd=5
 ·rw[e5];exact step_waiting (h.pq j hj) who x st md r hj hw k1 k2 htw hx hxl hr hro hL hLR hc hcL
 by_cases e6:kd=6
 ·rw[e6];exact step_wounders (h.pq j hj) who x st md r hj hw k1 k2 htw hx hxl hr hro hL hLR hc hcL
 by_cases e7:kd=7
 ·rw[e7];exact step_wounded (h.pq j hj) who x st md r hj hw k1 k2 htw hx hxl hr hro hL hLR hc hcL
 by_cases e8:kd=8
 ·rw[e8];exact step_holders (h.pq j hj) who x st md r hj hw k1 k2 htw hx hxl hr hro hL hLR hc hcL
 by_cases e9:kd=9
 ·rw[e9];exact step_queue (h.pq j hj) who x st md r hj hw k1 k2 htw hx hxl hr hro hL hLR hc hcL
 by_cases e10:kd=10
 ·rw[e10];exact step_live (h.pq j hj) who x st md r hj hw k1 k2 htw hx hxl hr hro hL hLR hc hcL
 by_cases e11:kd=11
 ·rw[e11];exact step_waits (h.pq j hj) who x st md r hj hw k1 k2 htw hx hxl hr hro hL hLR hc hcL
 exact step_none (h.pq j hj) kd who x st md r hj hw k1 k2 htw hx hxl hr hro hL hLR hc hcL e1 e2 e3 e4 e5 e6 e7 e8 e9 e10 e11
structure RS(W0 w:World)(tw bb:Nat)(L:List Int)(LR:List Rs)(cc:Nat)(t b:Nat→Nat)(m:Nat→Ms)(s:Nat→Gs)(R:Nat→Rt)(D:Nat→Nat→Prop)(q1 q2 q3:Kst)(n1 n2 n3:Nat):Prop where
 tw:TWs W0 w tw L LR cc t b m s R D
 bk:BK W0.heap.size w bb q1 q2 q3 n1 n2 n3
 mkd:Mk mI q1 n1∧Mk mH q2 n2∧Mk mW q3 n3
 nl:n1≤q1.es.length∧n2≤q2.es.length∧n3≤q3.es.length
 ap:∀j,j<2→∀k,PB (s j) (D j) k→¬BB bb q1 q2 q3 k
 lb:W0.heap.size≤bb
 tb:Tb W0
section
variable {W0 w w':World} {tw bb cc n1 n2 n3:Nat} {L:List Int} {LR:List Rs} {t b:Nat→Nat} {m:Nat→Ms} {s:Nat→Gs} {R:Nat→Rt} {D:Nat→Nat→Prop} {q1 q2 q3 p1 p2 p3:Kst}
theorem BK.low{lo:Nat}(h:BK lo w bb q1 q2 q3 n1 n2 n3)(hb:lo≤bb){k:Nat}(hk:BB bb q1 q2 q3 k):lo≤k:=by
 rcases hk with rfl|hk|hk|hk
 ·exact hb
 ·exact h.i.low hk
 ·exact h.h.low hk
 ·exact h.w.low hk
theorem RS.gl(h:RS W0 w tw bb L LR cc t b m s R D q1 q2 q3 n1 n2 n3):¬BB bb q1 q2 q3 1∧¬BB bb q1 q2 q3 0:=⟨fun e=>by have h1:=h.bk.low h.lb e;have h2:=h.tb.lf;omega,fun e=>by have h1:=h.bk.low h.lb e;have h2:=h.tb.lj;omega⟩
theorem RS.G(h:RS W0 w tw bb L LR cc t b m s R D q1 q2 q3 n1 n2 n3)(g:Go.Proofs.YtadfaiciolfgjaaGreatDoor.G w w'):RS W0 w' tw bb L LR cc t b m s R D q1 q2 q3 n1 n2 n3:=
 ⟨⟨h.tw.blk.G g,fun j hj=>(h.tw.pq j hj).G g,h.tw.ap,h.tw.tn,h.tw.nw,h.tw.tl,h.tw.gg.trans g⟩,h.bk.G g,h.mkd,h.nl,h.ap,h.lb,h.tb⟩
theorem RS.book(h:RS W0 w tw bb L LR cc t b m s R D q1 q2 q3 n1 n2 n3)(c:Chg (BB bb q1 q2 q3) w w'):TWs W0 w' tw L LR cc t b m s R D:=by
 refine⟨h.tw.blk.chg c (fun e=>?_),fun j hj=>(h.tw.pq j hj).far c (fun i hi=>h.ap j hj i hi) h.gl,h.tw.ap,h.tw.tn,h.tw.nw,h.tw.tl,h.tw.gg.of_chg c (fun k hk=>h.bk.low h.lb hk)⟩
 have ht:=h.tw.blk.ty
 rcases e with e|e|e|e
 ·subst e;exact absurd (ht.one h.bk.blk.ty) (by decide)
 ·rcases h.bk.i.typ e with e|e<;>exact absurd (ht.one e) (by decide)
 ·rcases h.bk.h.typ e with e|e<;>exact absurd (ht.one e) (by decide)
 ·rcases h.bk.w.typ e with e|e<;>exact absurd (ht.one e) (by decide)
theorem RS.step(h:RS W0 w tw bb L LR cc t b m s R D q1 q2 q3 n1 n2 n3){j:Nat}(hj:j<2){u:Value}(hn:PNu w w' (t j) (b j) L LR (s j) (D j) (cc+1) u)(hu:∀k,u.ownBlock=some k→w.heap.size≤k∧k<w'.heap.size):∃m' s' R' D',RS W0 w' tw bb L LR (cc+1) t b m' s' R' D' q1 q2 q3 n1 n2 n3∧∀i,i<2→∀k,u.ownBlock=some k→¬PB (s' i) (D' i) k:=by
 have hch:Chg (PB (s j) (D j)) w w':=by obtain⟨_,_,_,_,_,h2,_⟩:=hn;exact h2
 obtain⟨m',s',R',D',h1,h2,h3⟩:=hn.tws h.tw hj hu
 refine⟨m',s',R',D',⟨h1,h.bk.chg hch (fun k hk hh=>h.ap j hj k hh hk),h.mkd,h.nl,fun i hi k hk hh=>?_,h.lb,h.tb⟩,h3⟩
 rcases h2 i hi k hk with e|e
 ·exact h.ap i hi k e hh
 ·have:=h.bk.lt hh;omega
theorem RS.push{x0:SV}(h:RS W0 w tw bb L LR cc t b m s R D q1 q2 q3 n1 n2 n3)(hp:Pua W0.heap.size w bb q1 q2 q3 n1 n2 n3 x0 w')(hx:∀k,(sv x0).ownBlock=some k→∀i,i<2→¬PB (s i) (D i) k):∃p1,RS W0 w' tw bb L LR cc t b m s R D p1 q2 q3 n1 n2 n3∧BQ W0.heap.size w' bb p1 q2 q3 n1 n2 n3∧p1.es.length=q1.es.length+1:=by
 obtain⟨q,k1,k2,k3,k4,k5⟩:=hp
 refine⟨q,⟨h.book k4,k1.bk,⟨k3.mk h.mkd.1 h.nl.1,h.mkd.2⟩,⟨by have:=h.nl.1;omega,h.nl.2⟩,fun j hj k hk hh=>?_,h.lb,h.tb⟩,k1,k2⟩
 rcases k5 k hh with e|e|e
 ·exact h.ap j hj k hk e
 ·have:=(h.tw.pq j hj).dl hk;omega
 ·exact hx k e j hj hk
theorem RS.look(h:RS W0 w tw bb L LR cc t b m s R D q1 q2 q3 n1 n2 n3)(hq:BQ W0.heap.size w bb q1 q2 q3 n1 n2 n3)(hl:q1.es.length<800000000∧q2.es.length<800000000∧q3.es.length<800000000){j:Nat}(hj:j<2)(kd who x st md:Int)(r:Rs)(hro:r.ok)(hL:L.length<100000000000)(hc:cc<200000000000)(hcL:cc*L.length<2000000000000):Calls prog 11 #[ptr bb,ptr (t j),ptr (b j),.agg #[I kd,I who,I x,I st,I r.lv,.string r.lb,I r.id,I md]] w fun e w'=>e=.returned (.tuple #[])∧∃p1 p2 p3,RS W0 w' tw bb L LR cc t b m s R D p1 p2 p3 n1 n2 n3∧BQ W0.heap.size w' bb p1 p2 p3 n1 n2 n3∧(p1.es.length=q1.es.length+6∧p2.es.length=q2.es.length+6∧p3.es.length=q3.es.length+3):=by
 refine(look_any hq (h.tw.pq j hj) (fun k hk=>h.ap j hj k hk) h.gl h.tw.gg.size hl kd who x st md r hro hL hc hcL).mono ?_
 rintro e w' ⟨rfl,p1,p2,p3,hk,e1,e2,e3⟩
 refine⟨rfl,p1,p2,p3,⟨h.book hk.ch,hk.q.bk,⟨hk.oa.mk h.mkd.1 h.nl.1,hk.ob.mk h.mkd.2.1 h.nl.2.1,hk.oc.mk h.mkd.2.2 h.nl.2.2⟩,⟨by have:=h.nl.1;omega,by have:=h.nl.2.1;omega,by have:=h.nl.2.2;omega⟩,fun i hi k hk2 hh=>?_,h.lb,h.tb⟩,hk.q,e1,e2,e3⟩
 rcases hk.nw k hh with e|e
 ·exact h.ap i hi k hk2 e
 ·have:=(h.tw.pq i hi).dl hk2;omega
theorem RS.close(h:RS W0 w tw bb L LR cc t b m s R D q1 q2 q3 n1 n2 n3)(hq:BQ W0.heap.size w bb q1 q2 q3 n1 n2 n3)(hl:q1.es.length<1000000000∧q2.es.length<1000000000∧q3.es.length<1000000000):Calls prog 13 #[ptr bb] w fun e w'=>e=.returned (.tuple #[])∧∃p1 p2 p3,RS W0 w' tw bb L LR cc t b m s R D p1 p2 p3 p1.es.length p2.es.length p3.es.length∧(p1.es.length=p1.ws.length∧p2.es.length=p2.ws.length∧p3.es.length=p3.ws.length)∧(p1.es.length=q1.es.length∧p2.es.length=q2.es.length∧p3.es.length=q3.es.length):=by
 have hbd:∀{ty k N:Nat} {P:Nat→List Value→Prop} {q:Kst} {n:Nat},Kw w ty k P q n→(∀n' cs,P n' cs→n'<N)→∀(i:Nat) (x:SV),n≤i→q.es[i]?=some x→x.2.1<N:=fun hk hP i x hi hx=>by
  have hlt:=(List.getElem?_eq_some_iff.1 hx).1
  rw[hk.len] at hlt
  exact hP _ _ (hk.all i x _ hi hx (List.getElem?_eq_getElem hlt)).2.1
 refine(close_any h.bk h.tw.gg.size h.nl hl h.mkd ⟨hbd hq.kw.1 (fun n cs h=>by obtain⟨_,_,h,_⟩:=h;exact h),hbd hq.kw.2.1 (fun n cs h=>by obtain⟨_,_,h,_⟩:=h;exact h),hbd hq.kw.2.2 (fun n cs h=>by obtain⟨_,_,h,_⟩:=h;exact h)⟩).mono ?_
 rintro e w' ⟨rfl,p1,p2,p3,s1,s2,s3,hb,hm,hc⟩
 refine⟨rfl,p1,p2,p3,⟨h.book hc,by rw[s1.e,s2.e,s3.e];exact hb,by rw[s1.e,s2.e,s3.e];exact hm,⟨Nat.le_refl _,Nat.le_refl _,Nat.le_refl _⟩,fun j hj k hk hh=>h.ap j hj k hk ((BB.same s1 s2 s3).1 hh),h.lb,h.tb⟩,⟨by rw[s1.e,s1.w];exact hq.kw.1.len,by rw[s2.e,s2.w];exact hq.kw.2.1.len,by rw[s3.e,s3.w];exact hq.kw.2.2.len⟩,by rw[s1.e],by rw[s2.e],by rw[s3.e]⟩
theorem RS.bq(h:RS W0 w tw bb L LR cc t b m s R D q1 q2 q3 q1.es.length q2.es.length q3.es.length)(hl:q1.es.length=q1.ws.length∧q2.es.length=q2.ws.length∧q3.es.length=q3.ws.length):BQ W0.heap.size w bb q1 q2 q3 q1.es.length q2.es.length q3.es.length:=
 ⟨h.bk,⟨hl.1,fun i x y hi hx=>by have:=(List.getElem?_eq_some_iff.1 hx).1;omega⟩,⟨hl.2.1,fun i x y hi hx=>by have:=(List.getElem?_eq_some_iff.1 hx).1;omega⟩,⟨hl.2.2,fun i x y hi hx=>by have:=(List.getElem?_eq_some_iff.1 hx).1;omega⟩⟩
end
end
section
open Go.RowKit
theorem nilrow{w:World}(lo:Nat){e k:Nat}:w.ownsRow lo e k (.slice none 0 0) ([]:List Int).length (([]:List Int).map fun z=>I z):=⟨by simp,.inl ⟨rfl,rfl⟩⟩
section
variable {W0 w w':World} {tw bb cc n1 n2 n3:Nat} {L:List Int} {LR:List Rs} {t b:Nat→Nat} {m:Nat→Ms} {s:Nat→Gs} {R:Nat→Rt} {D:Nat→Nat→Prop} {q1 q2 q3:Kst}
theorem RS.ints(h:RS W0 w tw bb L LR cc t b m s R D q1 q2 q3 n1 n2 n3)(hq:BQ W0.heap.size w bb q1 q2 q3 n1 n2 n3)(hl:q1.es.length<900000000)(ids:List Int)(hi:ids.length<4100000000000){u v:Value}{lo3 lo4:Nat}(o3:w.ownsRow lo3 3 1 u ids.length (ids.map fun z=>I z))(hlo:W0.heap.size≤lo3)(hn:∀k,u.ownBlock=some k→¬BB bb q1 q2 q3 k)(hx:∀k,u.ownBlock=some k→∀i,i<2→¬PB (s i) (D i) k)(o4:w.ownsRow lo4 3 1 v ids.length (ids.map fun z=>I z)) :
  Calls prog 7 #[ptr bb,u,v] w fun e w'=>e=.returned (.tuple #[])∧(∃p1,RS W0 w' tw bb L LR cc t b m s R D p1 q2 q3 n1 n2 n3∧BQ W0.heap.size w' bb p1 q2 q3 n1 n2 n3∧p1.es.length=q1.es.length+1)∧Chg (BB bb q1 q2 q3) w w':=by
 obtain⟨x,rfl,hxn⟩:=own_sv o3
 obtain⟨y,rfl,hyn⟩:=own_sv o4
 refine(ints_any x y (ids.map fun z=>I z) hq h.tw.gg.size hl (by rw[hxn];exact own_low o3 hlo) (fun k hk hh=>hn k hk (.inr (.inl hh))) (by rw[hxn];exact own_low o4 (Nat.zero_le _)) (by rw[hxn,hyn]) ⟨ids,hxn.symm,by rw[hxn];exact hi,rfl⟩).mono ?_
 rintro e w' ⟨rfl,hp⟩
 refine⟨rfl,h.push hp hx,?_⟩
 obtain⟨_,_,_,_,h4,_⟩:=hp
 exact h4
theorem RS.init(h:TWs W0 w tw L LR cc t b m s R D)(hT:Tb W0):RS W0 (w.alloc (.cells #[.slice none 0 0,.slice none 0 0,.slice none 0 0,.slice none 0 0,.slice none 0 0,.slice none 0 0,I 0,I 0,I 0] 31)) tw w.heap.size L LR cc t b m s R D (⟨.slice none 0 0,.slice none 0 0,[],[],fun _=>[]⟩:Kst) (⟨.slice none 0 0,.slice none 0 0,[],[],fun _=>[]⟩:Kst) (⟨.slice none 0 0,.slice none 0 0,[],[],fun _=>[]⟩:Kst) 0 0 0:=by
 have g:Go.Proofs.YtadfaiciolfgjaaGreatDoor.G w (w.alloc (.cells #[.slice none 0 0,.slice none 0 0,.slice none 0 0,.slice none 0 0,.slice none 0 0,.slice none 0 0,I 0,I 0,I 0] 31)):=(Go.Proofs.YtadfaiciolfgjaaGreatDoor.G.refl w).alloc _
 have hk:∀(ty ts k:Nat),Kc (w.alloc (.cells #[.slice none 0 0,.slice none 0 0,.slice none 0 0,.slice none 0 0,.slice none 0 0,.slice none 0 0,I 0,I 0,I 0] 31)) W0.heap.size ty ts k (⟨.slice none 0 0,.slice none 0 0,[],[],fun _=>[]⟩:Kst):=fun ty ts k=>⟨⟨by simp,.inl ⟨rfl,rfl⟩⟩,⟨by simp,.inl ⟨rfl,rfl⟩⟩,fun b e=>by simp[Value.ownBlock] at e,fun i x e=>by simp at e,fun i j x y b e=>by simp at e⟩
 refine⟨⟨h.blk.G g,fun j hj=>(h.pq j hj).G g,h.ap,h.tn,h.nw,h.tl,h.gg.trans g⟩,⟨Blk.new w [.slice none 0 0,.slice none 0 0,.slice none 0 0,.slice none 0 0,.slice none 0 0,.slice none 0 0,I 0,I 0,I 0] 31,hk _ _ _,hk _ _ _,hk _ _ _⟩,⟨fun t x ht=>by omega,fun t x ht=>by omega,fun t x ht=>by omega⟩,⟨Nat.zero_le _,Nat.zero_le _,Nat.zero_le _⟩,fun j hj k hk hh=>?_,h.gg.size,hT⟩
 have h1:=(h.pq j hj).dl hk
 rcases hh with e|e|e|e
 ·omega
 all_goals
  rcases e with e|e|⟨x,e,_⟩
  iterate 2
   ·simp[Value.ownBlock] at e
  ·simp at e
end
def OW(W0 w:World)(tw bb:Nat)(L:List Int)(LR:List Rs)(i:Nat):Prop:=∃(t b:Nat→Nat) (m:Nat→Ms) (s:Nat→Gs) (R:Nat→Rt) (D:Nat→Nat→Prop) (q1 q2 q3:Kst),RS W0 w tw bb L LR i t b m s R D q1 q2 q3 q1.es.length q2.es.length q3.es.length∧(q1.es.length=q1.ws.length∧q2.es.length=q2.ws.length∧q3.es.length=q3.ws.length)∧(q1.es.length≤8*i∧q2.es.length≤6*i∧q3.es.length≤3*i)
theorem law_LocksOwn(v:Value)(N:Nat)(X:Nat→Lo)(W:World)(hS:ScL W v N X)(hX:∀i,i<N→R64 (X i).x∧(X i).r.ok)(hN:N≤1048576)(hT:Tb W) :
  Calls prog 3 #[v] W fun e W'=>e=.returned (.bool true)∧G W W':=by
 obtain⟨a,cap,rfl,hS⟩:=hS
 obtain⟨L,hLe⟩:∃L,L=(List.range N).map fun i=>(X i).x:=⟨_,rfl⟩
 obtain⟨LR,hLRe⟩:∃LR,LR=(List.range N).map fun i=>(X i).r:=⟨_,rfl⟩
 have HL:Hid (L.length<100000000000):=by rw[Hid,hLe];simp;omega
 have HLR:Hid (LR.length<2000000000000):=by rw[Hid,hLRe];simp;omega
 have HLL:Hid (∀n,n≤N→n*L.length<2000000000000):=fun n hn=>by
  have h1:L.length=N:=by rw[hLe];simp
  rw[h1]
  exact Nat.lt_of_le_of_lt (Nat.mul_le_mul (Nat.le_trans hn hN) hN) (by decide)
 have HXA:Hid (∀i,i<N→R64 (X i).x∧(X i).r.ok∧(X i).x∈L∧(X i).r∈LR):=fun i hi=>⟨(hX i hi).1,(hX i hi).2,by rw[hLe];exact List.mem_map.2 ⟨i,List.mem_range.2 hi,rfl⟩,by rw[hLRe];exact List.mem_map.2 ⟨i,List.mem_range.2 hi,rfl⟩⟩
 have HS:=hide hS;have HN:=hide hN;have HTB:=hide hT
 have KB:=hide (begin_tw L LR W hT)
 clear hLe hLRe hX hS hN hT
 go_enter func3,ntmps3
 go_wp2_with (first|(go_at_call 4;(with_reducible refine KB.out.mono ?_);rintro e w2 ⟨tw,rfl,h2⟩)|fail)
 obtain⟨t0,b0,m0',s0,R0,D0,h2⟩:=h2
 have HI:Hid (OW W (w2.alloc (.cells #[.slice none 0 0,.slice none 0 0,.slice none 0 0,.slice none 0 0,.slice none 0 0,.slice none 0 0,I 0,I 0,I 0] 31)) tw w2.heap.size L LR 0):=⟨t0,b0,m0',s0,R0,D0,(⟨.slice none 0 0,.slice none 0 0,[],[],fun _=>[]⟩:Kst),(⟨.slice none 0 0,.slice none 0 0,[],[],fun _=>[]⟩:Kst),(⟨.slice none 0 0,.slice none 0 0,[],[],fun _=>[]⟩:Kst),RS.init h2 HTB.out,⟨rfl,rfl,rfl⟩,⟨Nat.le_refl _,Nat.le_refl _,Nat.le_refl _⟩⟩
 clear h2 KB
 obtain⟨w3,hw3⟩:∃w3,w3=w2.alloc (.cells #[.slice none 0 0,.slice none 0 0,.slice none 0 0,.slice none 0 0,.slice none 0 0,.slice none 0 0,I 0,I 0,I 0] 31):=⟨_,rfl⟩
 rw[←hw3] at HI
 rw[←hw3]
 clear hw3
 generalize w2.heap.size=bb at HI⊢
 go_loopw [4,6] (fun ov iv wr=>∃i:Nat,i≤N∧ov=.bool true∧iv=I (i:Int)∧OW W wr tw bb L LR i) (fun _ iv _=>N-(RowKit.intOf iv).toNat)
 case atStart=>exact⟨0,Nat.zero_le _,rfl,rfl,HI.out⟩
 case round=>
  clear HI
  obtain⟨i,hi,rfl,rfl,t,b,m,s,R,D,q1,q2,q3,hRS,hlw,hz⟩:=hrel
  have hnN:=HN.out
  have HGW:Hid (G W wr):=hRS.tw.gg
  by_cases hlt:i<N
  ·rcases HS.out with h0|⟨sb,off,rfl,hops⟩
   ·omega
   obtain⟨x1,x2,x3,x4,x5,x6,x7,x8⟩:=(hops.G HGW.out).at hlt
   have hxx:=HXA.out i hlt
   generalize X i=oo at x1 x2 x3 x4 x5 x6 x7 x8 hxx
   obtain⟨okd,owho,ox,ost,orr,omd⟩:=oo
   dsimp only at x1 x2 x3 x4 x5 x6 x7 x8 hxx
   have i1:(i:Int)<(N:Int):=by omega
   have hwn:wrap64 ((i:Int)+1)=(i:Int)+1:=by unfold wrap64;omega
   have HWN:=hide hwn;have HXX:=hide hxx
   obtain⟨j,hj,hw⟩:=and1 owho
   obtain⟨k1,k2,htw⟩:=tws_cells hRS.tw hj
   have HG1:Hid (G wr (wr.alloc (.cells #[I okd,I owho,I ox,I ost,I orr.lv,.string orr.lb,I orr.id,I omd] 35))):=(G.refl wr).alloc _
   have HB1:Hid (Blk (wr.alloc (.cells #[I okd,I owho,I ox,I ost,I orr.lv,.string orr.lb,I orr.id,I omd] 35)) wr.heap.size 35 [I okd,I owho,I ox,I ost,I orr.lv,.string orr.lb,I orr.id,I omd]):=Blk.new wr _ 35
   have hbx:=HB1.out.cell
   have y1:(wr.alloc (.cells #[I okd,I owho,I ox,I ost,I orr.lv,.string orr.lb,I orr.id,I omd] 35)).cell? ⟨tw,j,none⟩=some (ptr (t j)):=(HG1.out.cell htw).trans k1
   have y2:(wr.alloc (.cells #[I okd,I owho,I ox,I ost,I orr.lv,.string orr.lb,I orr.id,I omd] 35)).cell? ⟨tw,2+j,none⟩=some (ptr (b j)):=(HG1.out.cell htw).trans k2
   have hjI:(j:Int)<2:=by omega
   have hj0:(0:Int)≤(j:Int):=by omega
   have HLT:=hide hlt;have HRW:=hide hRS;have HLW:=hide hlw;have HZ:=hide hz;have HJ:=hide hj;have HWH:=hide hw
   clear hi hRS hlw hz hnN hlt hops hxx hwn hj k1 k2 htw
   go_wp2_with fail
   go_quiet (fail)
   go_wp2_with fail
   go_quiet (fail)
   generalize hV:(((wr.alloc (.cells #[I okd,I owho,I ox,I ost,I orr.lv,.string orr.lb,I orr.id,I omd] 35))).drewN _).drewN _=V
   have HV:Hid (G wr V):=by rw[←hV];exact(HG1.out.drewN _).drewN _
   have HBV:Hid (Blk V wr.heap.size 35 [I okd,I owho,I ox,I ost,I orr.lv,.string orr.lb,I orr.id,I omd]):=by rw[←hV];exact(HB1.out.drewN _).drewN _
   clear hV hbx y1 y2 HG1 HB1 hw x1 x2 x3 x4 x5 x6 x7 x8 i1 hjI hj0
   obtain⟨bx,hbxe⟩:∃bx,bx=wr.heap.size:=⟨_,rfl⟩
   have HBN:Hid (∀j,j<2→¬PB (s j) (D j) bx):=fun j hj hh=>by have h1:=(HRW.out.tw.pq j hj).dl hh;omega
   rw[←hbxe] at HBV⊢
   clear hbxe
   have HRV:=hide (HRW.out.G HV.out)
   clear HRW HV
   by_cases h2:okd=2
   ·subst h2
    have KA:=hide (ask_p (mode:=omd) (HRV.out.tw.pq j HJ.out).gt HXX.out.1 HXX.out.2.2.2 HXX.out.2.1 (show L.length<2000000000000 by have:=HL.out;omega) HLR.out)
    simp only[Rs.v] at KA
    have c0:=HBV.out.cell
    go_wp2_with (first|(go_at_call 5;(with_reducible refine(KA.out).mono ?_);rintro e w3 ⟨k3,u3,l3,c3,s3,m3,rfl,o3,g3,e3,z3⟩;refine Hid.out ?_)|fail)
    unfold Hid
    have HP3:=hide ((HRV.out.tw.pq j HJ.out).prog e3 g3)
    have HB3:=hide (HBV.out.chg HP3.out.2.1 (HBN.out j HJ.out))
    have HZ3:=hide z3;have HE3:=hide e3;have HG3:=hide g3;have HO3:=hide o3
    have KD:=hide (ask_d (x:=ox) (r:=orr) (mode:=omd) HP3.out.1.rt HP3.out.1.rm (HRV.out.tw.pq j HJ.out).gt.iv HXX.out.2.2.2 HXX.out.2.1 HL.out HP3.out.1.lt HP3.out.1.la (show i<200000000000 by have h3:=HLT.out;have h4:=HN.out;omega))
    simp only[Rs.v] at KD
    have c3:=HB3.out.cell
    clear c0 o3 g3 e3 z3 KA
    go_wp2_with (first|(go_at_call 6;(with_reducible refine(KD.out).mono ?_);rintro e w4 ⟨k4,u4,l4,c4,m4,rfl,o4,x4,z4⟩;refine Hid.out ?_)|fail)
    unfold Hid
    obtain⟨e1,e2,e3,e4⟩:=askZ_one HZ3.out z4
    subst e1 e2 e3 e4
    have hx4:=x4
    obtain⟨_,_,_,_,k3',_⟩:=hx4
    have HOW:Hid (w4.ownsRow V.heap.size 3 1 u3 l3.length (l3.map fun z=>I z)):=row_stay (HRV.out.tw.pq j HJ.out) HO3.out (Nat.le_refl _) k3'
    have HB4:=hide (HB3.out.chg k3' (fun hh=>HBN.out j HJ.out (.inr hh)))
    have hub:∀k,u3.ownBlock=some k→V.heap.size≤k∧k<w4.heap.size:=fun k e=>World.ownsRow.lt HOW.out k e
    obtain⟨m5,s5,R5,D5,hr5,hu5⟩:=HRV.out.step HJ.out (PNu.two (HRV.out.tw.pq j HJ.out) HE3.out HG3.out HO3.out x4) hub
    have KI:=hide (hr5.ints (hr5.bq HLW.out) (show q1.es.length<900000000 by have h1:=HZ.out;have h3:=HLT.out;have h4:=HN.out;omega) l3 (show l3.length<4100000000000 by have h1:=askZ_len (HRV.out.tw.pq j HJ.out).gt.iv HZ3.out;have h2:=HL.out;omega) HOW.out HRV.out.tw.gg.size (fun k e hh=>by have h1:=hub k e;have h2:=HRV.out.bk.lt hh;omega) (fun k e i hi=>hu5 i hi k e) o4)
    have HBK4:=hide hr5.bk
    clear o4 x4 z4 hr5 hu5 hub k3' KD c3
    go_wp2_with (first|(go_at_call 7;(with_reducible refine(KI.out).mono ?_);rintro e w5 ⟨rfl,⟨p0,h5,h6,h7⟩,h8⟩;refine Hid.out ?_)|fail)
    unfold Hid
    have HR5:=hide (And.intro h5 h6)
    have HE5:Hid (p0.es.length≤q1.es.length+2):=by show _≤_;omega
    have HB5:=hide ((HBK4.out.stay h8 _ _).2 HB4.out)
    clear h5 h6 h7 h8 KI
    have KL:=hide (HR5.out.1.look HR5.out.2 (show _∧_∧_ from by have h1:=HZ.out;have h2:=HE5.out;have h3:=HLT.out;have h4:=HN.out;omega) HJ.out 2 owho ox ost omd orr HXX.out.2.1 HL.out (show i+1<200000000000 by have h3:=HLT.out;have h4:=HN.out;omega) (HLL.out (i+1) HLT.out))
    have c5:=HB5.out.cell
    go_wp2_with (first|(go_at_call 11;(with_reducible refine(KL.out).mono ?_);rintro e w6 ⟨rfl,p1,p2,p3,h6,h7,h8⟩;refine Hid.out ?_)|fail)
    unfold Hid
    have HR6:=hide (And.intro h6 h7);have HE6:=hide h8
    clear h6 h7 h8 KL c5
    have HLN6:Hid (p1.es.length<1000000000∧p2.es.length<1000000000∧p3.es.length<1000000000):=by have h0:=HE6.out;have h1:=HZ.out;have h2:=HE5.out;have h3:=HLT.out;have h4:=HN.out;show _∧_∧_;omega
    have KR:=hide (right_any HR6.out.2 HR6.out.1.nl HLN6.out)
    go_wp2_with (first|(go_at_call 12;(with_reducible refine(KR.out).mono ?_);rintro e w7 ⟨rfl,g7⟩;refine Hid.out ?_)|fail)
    unfold Hid
    have KC:=hide ((HR6.out.1.G g7).close (HR6.out.2.G g7) HLN6.out)
    clear g7 KR
    go_wp2_with (first|(go_at_call 13;(with_reducible refine(KC.out).mono ?_);rintro e w8 ⟨rfl,z1,z2,z3,h6,h7,h8⟩;refine Hid.out ?_)|fail)
    unfold Hid
    have HR8:=hide h6;have HW8:=hide h7;have HE8:=hide h8
    clear h6 h7 h8 KC
    have KK:=hide (kept_any HR8.out.bk (show _∧_∧_ from by have h1:=HE8.out;have h2:=HLN6.out;omega) HR8.out.mkd)
    go_wp2_with (first|(go_at_call 14;(with_reducible refine(KK.out).mono ?_);rintro e w9 ⟨rfl,h9⟩;subst w9)|fail)
    exact⟨⟨i+1,HLT.out,rfl,by rw[HWN.out];exact rl1 i,_,_,_,_,_,_,z1,z2,z3,HR8.out,HW8.out,by have h0:=HE8.out;have h1:=HE6.out;have h2:=HE5.out;have h3:=HZ.out;omega⟩,by rw[HWN.out];exact ms_end HLT.out⟩
   ·by_cases h3:okd=3
    ·subst h3
     clear h2
     cases hpn:(m j).lv ox with
     | none=>
      have HPN:=hide hpn
      clear hpn
      have KA:=hide (End_none (t j) (s j) ox V (HRV.out.tw.pq j HJ.out).gt.tt HXX.out.1 ((HRV.out.tw.pq j HJ.out).gt.ab.none.2 HPN.out))
      have c0:=HBV.out.cell
      go_wp2_with (first|(go_at_call 8;(with_reducible refine(KA.out).mono ?_);rintro e w3 ⟨rfl,g3⟩;refine Hid.out ?_)|fail)
      unfold Hid
      have HG3:=hide g3
      have HB3:=hide (HBV.out.G g3)
      have KD:=hide (end_rnone ((HRV.out.tw.pq j HJ.out).G g3).rt ox (tx_no (HRV.out.tw.pq j HJ.out).rm HPN.out) (by have h1:=(HRV.out.tw.pq j HJ.out).lt;have h3:=HLT.out;have h4:=HN.out;omega))
      have c3:=HB3.out.cell
      clear c0 g3 KA
      go_wp2_with (first|(go_at_call 9;(with_reducible refine(KD.out).mono ?_);rintro e w4 ⟨rfl,g4⟩;refine Hid.out ?_)|fail)
      unfold Hid
      have HG4:=hide (HG3.out.trans g4)
      have HB4:=hide (HB3.out.G g4)
      obtain⟨m5,s5,R5,D5,hr5,-⟩:=HRV.out.step HJ.out (PN.of_G (HRV.out.tw.pq j HJ.out) HG4.out (Nat.le_succ _)).u (fun k e=>by simp[Value.ownBlock] at e)
      have HR4:=hide hr5
      clear g4 KD c3 hr5
      have KI:=hide (HR4.out.ints (HR4.out.bq HLW.out) (show q1.es.length<900000000 by have h1:=HZ.out;have h3:=HLT.out;have h4:=HN.out;omega) [] (by simp) (u:=(.slice none 0 0)) (v:=(.slice none 0 0)) (nilrow W.heap.size) (Nat.le_refl _) (fun k e=>by simp[Value.ownBlock] at e) (fun k e=>by simp[Value.ownBlock] at e) (nilrow 0))
      go_wp2_with (first|(go_at_call 7;(with_reducible refine(KI.out).mono ?_);rintro e w5a ⟨rfl,⟨p00,h5,h6,h7⟩,h8⟩;refine Hid.out ?_)|fail)
      unfold Hid
      have HRa:=hide (And.intro h5 h6)
      have HEa:=hide h7
      have HBa:=hide ((HR4.out.bk.stay h8 _ _).2 HB4.out)
      have HCa:=hide h8
      clear h5 h6 h7 h8 KI
      have KI:=hide (HRa.out.1.ints HRa.out.2 (show p00.es.length<900000000 by have h0:=HEa.out;have h1:=HZ.out;have h3:=HLT.out;have h4:=HN.out;omega) [] (by simp) (u:=.slice none 0 0) (v:=(.slice none 0 0)) (nilrow W.heap.size) (Nat.le_refl _) (fun k e=>by simp[Value.ownBlock] at e) (fun k e=>by simp[Value.ownBlock] at e) (nilrow 0))
      go_wp2_with (first|(go_at_call 7;(with_reducible refine(KI.out).mono ?_);rintro e w5 ⟨rfl,⟨p0,h5,h6,h7⟩,h8⟩;refine Hid.out ?_)|fail)
      unfold Hid
      have HR5:=hide (And.intro h5 h6)
      have HE5:Hid (p0.es.length≤q1.es.length+2):=by have h0:=HEa.out;show _≤_;omega
      have HB5:=hide ((HRa.out.1.bk.stay h8 _ _).2 HBa.out)
      clear h5 h6 h7 h8 KI
      have KL:=hide (HR5.out.1.look HR5.out.2 (show _∧_∧_ from by have h1:=HZ.out;have h2:=HE5.out;have h3:=HLT.out;have h4:=HN.out;omega) HJ.out 3 owho ox ost omd orr HXX.out.2.1 HL.out (show i+1<200000000000 by have h3:=HLT.out;have h4:=HN.out;omega) (HLL.out (i+1) HLT.out))
      have c5:=HB5.out.cell
      go_wp2_with (first|(go_at_call 11;(with_reducible refine(KL.out).mono ?_);rintro e w6 ⟨rfl,p1,p2,p3,h6,h7,h8⟩;refine Hid.out ?_)|fail)
      unfold Hid
      have HR6:=hide (And.intro h6 h7);have HE6:=hide h8
      clear h6 h7 h8 KL c5
      have HLN6:Hid (p1.es.length<1000000000∧p2.es.length<1000000000∧p3.es.length<1000000000):=by have h0:=HE6.out;have h1:=HZ.out;have h2:=HE5.out;have h3:=HLT.out;have h4:=HN.out;show _∧_∧_;omega
      have KR:=hide (right_any HR6.out.2 HR6.out.1.nl HLN6.out)
      go_wp2_with (first|(go_at_call 12;(with_reducible refine(KR.out).mono ?_);rintro e w7 ⟨rfl,g7⟩;refine Hid.out ?_)|fail)
      unfold Hid
      have KC:=hide ((HR6.out.1.G g7).close (HR6.out.2.G g7) HLN6.out)
      clear g7 KR
      go_wp2_with (first|(go_at_call 13;(with_reducible refine(KC.out).mono ?_);rintro e w8 ⟨rfl,z1,z2,z3,h6,h7,h8⟩;refine Hid.out ?_)|fail)
      unfold Hid
      have HR8:=hide h6;have HW8:=hide h7;have HE8:=hide h8
      clear h6 h7 h8 KC
      have KK:=hide (kept_any HR8.out.bk (show _∧_∧_ from by have h1:=HE8.out;have h2:=HLN6.out;omega) HR8.out.mkd)
      go_wp2_with (first|(go_at_call 14;(with_reducible refine(KK.out).mono ?_);rintro e w9 ⟨rfl,h9⟩;subst w9)|fail)
      exact⟨⟨i+1,HLT.out,rfl,by rw[HWN.out];exact rl1 i,_,_,_,_,_,_,z1,z2,z3,HR8.out,HW8.out,by have h0:=HE8.out;have h1:=HE6.out;have h2:=HE5.out;have h3:=HZ.out;omega⟩,by rw[HWN.out];exact ms_end HLT.out⟩
     | some pp=>
      have HPN:=hide hpn
      clear hpn
      have KA:=hide (End_t (HRV.out.tw.pq j HJ.out).gt HPN.out (show L.length<2000000000000 by have:=HL.out;omega) HLR.out)
      have c0:=HBV.out.cell
      go_wp2_with (first|(go_at_call 8;(with_reducible refine(KA.out).mono ?_);rintro e w3 ⟨u3,l3,s3,m3,rfl,o3,g3,e3,z3⟩;refine Hid.out ?_)|fail)
      unfold Hid
      have HP3:=hide ((HRV.out.tw.pq j HJ.out).prog e3 g3)
      have HB3:=hide (HBV.out.chg HP3.out.2.1 (HBN.out j HJ.out))
      have HZ3:=hide z3;have HE3:=hide e3;have HG3:=hide g3;have HO3:=hide o3
      have KD:=hide (end_d HP3.out.1.rt HP3.out.1.rm (HRV.out.tw.pq j HJ.out).gt.iv HPN.out z3 g3.iv HL.out HP3.out.1.lt HP3.out.1.la (show i<200000000000 by have h3:=HLT.out;have h4:=HN.out;omega))
      have c3:=HB3.out.cell
      clear c0 o3 g3 e3 z3 KA
      go_wp2_with (first|(go_at_call 9;(with_reducible refine(KD.out).mono ?_);rintro e w4 ⟨u4,v4,rfl,o4,p4,x4⟩;refine Hid.out ?_)|fail)
      unfold Hid
      have hx4:=x4
      obtain⟨_,_,_,_,k3',_⟩:=hx4
      have HOW:Hid (w4.ownsRow V.heap.size 3 1 u3 l3.length (l3.map fun z=>I z)):=row_stay (HRV.out.tw.pq j HJ.out) HO3.out (Nat.le_refl _) k3'
      have HB4:=hide (HB3.out.chg k3' (fun hh=>HBN.out j HJ.out (.inr hh)))
      have hub:∀k,u3.ownBlock=some k→V.heap.size≤k∧k<w4.heap.size:=fun k e=>World.ownsRow.lt HOW.out k e
      obtain⟨m5,s5,R5,D5,hr5,hu5⟩:=HRV.out.step HJ.out (PNu.two (HRV.out.tw.pq j HJ.out) HE3.out HG3.out HO3.out (x4.le (Nat.le_succ _) (Nat.le_succ _))) hub
      have HR4:=hide hr5;have HU5:=hide hu5;have HUB:=hide hub
      have HO4:=hide o4;have HP4:=hide p4
      have HV3:Hid (V.heap.size≤w3.heap.size):=HP3.out.2.1.size
      clear o4 p4 x4 hr5 hu5 hub k3' KD c3
      have KI:=hide (HR4.out.ints (HR4.out.bq HLW.out) (show q1.es.length<900000000 by have h1:=HZ.out;have h3:=HLT.out;have h4:=HN.out;omega) l3 (show l3.length<4100000000000 by have h1:=endK_len (HRV.out.tw.pq j HJ.out).gt.iv HZ3.out;have h2:=HL.out;omega) (u:=u3) (v:=u4) (HOW.out) (HRV.out.tw.gg.size) (fun k e hh=>by have h1:=HUB.out k e;have h2:=HRV.out.bk.lt hh;omega) (fun k e i hi=>HU5.out i hi k e) (HO4.out))
      go_wp2_with (first|(go_at_call 7;(with_reducible refine(KI.out).mono ?_);rintro e w5a ⟨rfl,⟨p00,h5,h6,h7⟩,h8⟩;refine Hid.out ?_)|fail)
      unfold Hid
      have HRa:=hide (And.intro h5 h6)
      have HEa:=hide h7
      have HBa:=hide ((HR4.out.bk.stay h8 _ _).2 HB4.out)
      have HCa:=hide h8
      clear h5 h6 h7 h8 KI
      have KI:=hide (HRa.out.1.ints HRa.out.2 (show p00.es.length<900000000 by have h0:=HEa.out;have h1:=HZ.out;have h3:=HLT.out;have h4:=HN.out;omega) [] (by simp) (u:=.slice none 0 0) (v:=v4) (nilrow W.heap.size) (Nat.le_refl _) (fun k e=>by simp[Value.ownBlock] at e) (fun k e=>by simp[Value.ownBlock] at e) (own_chg HP4.out HCa.out (fun g e hh=>by have h1:=(World.ownsRow.lt HP4.out g e).1;have h2:=HRV.out.bk.lt hh;have h3:=HV3.out;omega)))
      go_wp2_with (first|(go_at_call 7;(with_reducible refine(KI.out).mono ?_);rintro e w5 ⟨rfl,⟨p0,h5,h6,h7⟩,h8⟩;refine Hid.out ?_)|fail)
      unfold Hid
      have HR5:=hide (And.intro h5 h6)
      have HE5:Hid (p0.es.length≤q1.es.length+2):=by have h0:=HEa.out;show _≤_;omega
      have HB5:=hide ((HRa.out.1.bk.stay h8 _ _).2 HBa.out)
      clear h5 h6 h7 h8 KI
      have KL:=hide (HR5.out.1.look HR5.out.2 (show _∧_∧_ from by have h1:=HZ.out;have h2:=HE5.out;have h3:=HLT.out;have h4:=HN.out;omega) HJ.out 3 owho ox ost omd orr HXX.out.2.1 HL.out (show i+1<200000000000 by have h3:=HLT.out;have h4:=HN.out;omega) (HLL.out (i+1) HLT.out))
      have c5:=HB5.out.cell
      go_wp2_with (first|(go_at_call 11;(with_reducible refine(KL.out).mono ?_);rintro e w6 ⟨rfl,p1,p2,p3,h6,h7,h8⟩;refine Hid.out ?_)|fail)
      unfold Hid
      have HR6:=hide (And.intro h6 h7);have HE6:=hide h8
      clear h6 h7 h8 KL c5
      have HLN6:Hid (p1.es.length<1000000000∧p2.es.length<1000000000∧p3.es.length<1000000000):=by have h0:=HE6.out;have h1:=HZ.out;have h2:=HE5.out;have h3:=HLT.out;have h4:=HN.out;show _∧_∧_;omega
      have KR:=hide (right_any HR6.out.2 HR6.out.1.nl HLN6.out)
      go_wp2_with (first|(go_at_call 12;(with_reducible refine(KR.out).mono ?_);rintro e w7 ⟨rfl,g7⟩;refine Hid.out ?_)|fail)
      unfold Hid
      have KC:=hide ((HR6.out.1.G g7).close (HR6.out.2.G g7) HLN6.out)
      clear g7 KR
      go_wp2_with (first|(go_at_call 13;(with_reducible refine(KC.out).mono ?_);rintro e w8 ⟨rfl,z1,z2,z3,h6,h7,h8⟩;refine Hid.out ?_)|fail)
      unfold Hid
      have HR8:=hide h6;have HW8:=hide h7;have HE8:=hide h8
      clear h6 h7 h8 KC
      have KK:=hide (kept_any HR8.out.bk (show _∧_∧_ from by have h1:=HE8.out;have h2:=HLN6.out;omega) HR8.out.mkd)
      go_wp2_with (first|(go_at_call 14;(with_reducible refine(KK.out).mono ?_);rintro e w9 ⟨rfl,h9⟩;subst w9)|fail)
      exact⟨⟨i+1,HLT.out,rfl,by rw[HWN.out];exact rl1 i,_,_,_,_,_,_,z1,z2,z3,HR8.out,HW8.out,by have h0:=HE8.out;have h1:=HE6.out;have h2:=HE5.out;have h3:=HZ.out;omega⟩,by rw[HWN.out];exact ms_end HLT.out⟩
    ·have KS:=hide (step_pn HRV.out.tw okd owho ox ost omd orr HJ.out HWH.out HXX.out.1 HXX.out.2.2.1 HXX.out.2.2.2 HXX.out.2.1 HL.out HLR.out (show i<200000000000 by have h3:=HLT.out;have h4:=HN.out;omega) (HLL.out i (Nat.le_of_lt HLT.out)) h2 h3)
     have c0:=HBV.out.cell
     go_wp2_with (first|(go_at_call 10;(with_reducible refine(KS.out).mono ?_);rintro e w5 ⟨rfl,h5⟩;refine Hid.out ?_)|fail)
     unfold Hid
     have HB5:Hid (Blk w5 bx 35 [I okd,I owho,I ox,I ost,I orr.lv,.string orr.lb,I orr.id,I omd]):=by obtain⟨_,_,_,_,_,h6,_⟩:=h5;exact HBV.out.chg h6 (HBN.out j HJ.out)
     obtain⟨m5,s5,R5,D5,hr5,-⟩:=HRV.out.step HJ.out h5.u (fun k e=>by simp[Value.ownBlock] at e)
     have HR5:=hide (And.intro hr5 (hr5.bq HLW.out))
     have HE5:Hid (q1.es.length≤q1.es.length+2):=Nat.le_add_right _ _
     clear c0 KS h5 hr5
     have KL:=hide (HR5.out.1.look HR5.out.2 (show _∧_∧_ from by have h1:=HZ.out;have h2:=HE5.out;have h3:=HLT.out;have h4:=HN.out;omega) HJ.out okd owho ox ost omd orr HXX.out.2.1 HL.out (show i+1<200000000000 by have h3:=HLT.out;have h4:=HN.out;omega) (HLL.out (i+1) HLT.out))
     have c5:=HB5.out.cell
     go_wp2_with (first|(go_at_call 11;(with_reducible refine(KL.out).mono ?_);rintro e w6 ⟨rfl,p1,p2,p3,h6,h7,h8⟩;refine Hid.out ?_)|fail)
     unfold Hid
     have HR6:=hide (And.intro h6 h7);have HE6:=hide h8
     clear h6 h7 h8 KL c5
     have HLN6:Hid (p1.es.length<1000000000∧p2.es.length<1000000000∧p3.es.length<1000000000):=by have h0:=HE6.out;have h1:=HZ.out;have h2:=HE5.out;have h3:=HLT.out;have h4:=HN.out;show _∧_∧_;omega
     have KR:=hide (right_any HR6.out.2 HR6.out.1.nl HLN6.out)
     go_wp2_with (first|(go_at_call 12;(with_reducible refine(KR.out).mono ?_);rintro e w7 ⟨rfl,g7⟩;refine Hid.out ?_)|fail)
     unfold Hid
     have KC:=hide ((HR6.out.1.G g7).close (HR6.out.2.G g7) HLN6.out)
     clear g7 KR
     go_wp2_with (first|(go_at_call 13;(with_reducible refine(KC.out).mono ?_);rintro e w8 ⟨rfl,z1,z2,z3,h6,h7,h8⟩;refine Hid.out ?_)|fail)
     unfold Hid
     have HR8:=hide h6;have HW8:=hide h7;have HE8:=hide h8
     clear h6 h7 h8 KC
     have KK:=hide (kept_any HR8.out.bk (show _∧_∧_ from by have h1:=HE8.out;have h2:=HLN6.out;omega) HR8.out.mkd)
     go_wp2_with (first|(go_at_call 14;(with_reducible refine(KK.out).mono ?_);rintro e w9 ⟨rfl,h9⟩;subst w9)|fail)
     exact⟨⟨i+1,HLT.out,rfl,by rw[HWN.out];exact rl1 i,_,_,_,_,_,_,z1,z2,z3,HR8.out,HW8.out,by have h0:=HE8.out;have h1:=HE6.out;have h2:=HE5.out;have h3:=HZ.out;omega⟩,by rw[HWN.out];exact ms_end HLT.out⟩
  ·have hne:i=N:=by omega
   subst hne
   have i1:¬((i:Int)<(i:Int)):=by omega
   clear hi hlt hRS hlw hz hnN
   go_wp2_with fail
   go_ret
   exact⟨rfl,HGW.out⟩
end
end Go.Proofs.YtadfaiciolfgjaaGreatDoor
