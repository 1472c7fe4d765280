import Derived.Test.YtoefbpldmlebdaaGreatDoorLp7
namespace Go.Proofs.YtoefbpldmlebdaaGreatDoor
open Go.Proofs.Tryz
set_option maxHeartbeats 1000000
set_option maxRecDepth 100000
section
open Go.RowKit
theorem and1(who:Int):∃s:Nat,s<2∧bits BinOp.and IntKind.i64 who 1=(s:Int):=by
 refine⟨(BitVec.ofInt 64 who).toNat%2,Nat.mod_lt _ (by decide),?_⟩
 have h:((BitVec.ofInt 64 who) &&& (BitVec.ofInt 64 1)).toNat=(BitVec.ofInt 64 who).toNat%2:=by
  rw[BitVec.toNat_and]
  exact Nat.and_one_is_mod _
 show IntKind.i64.wrap ((((BitVec.ofInt 64 who) &&& (BitVec.ofInt 64 1)).toNat:Nat):Int)=_
 rw[h,IntKind.wrap_i64]
 have:=Nat.mod_lt (BitVec.ofInt 64 who).toNat (show 0<2 by decide)
 omega
structure TWs(W0 w:World)(tw:Nat)(L:List Int)(LR:List Rs)(c:Nat)(t b:Nat→Nat)(m:Nat→Ms)(s:Nat→Gs)(R:Nat→Rt)(D:Nat→Nat→Prop):Prop where
 blk:Blk w tw 58 [ptr (t 0),ptr (t 1),ptr (b 0),ptr (b 1)]
 pq:∀j,j<2→PQ w (t j) (b j) (m j) L LR (s j) (R j) (D j) c
 ap:∀j i k,j<2→i<2→j≠i→PB (s j) (D j) k→¬PB (s i) (D i) k
 tn:∀j,j<2→¬PB (s j) (D j) tw
 nw:∀j,j<2→∀k,PB (s j) (D j) k→W0.heap.size≤k
 tl:W0.heap.size≤tw
 gg:G W0 w
def TW(W0 w:World)(tw:Nat)(L:List Int)(LR:List Rs)(c:Nat):Prop:=∃t b m s R D,TWs W0 w tw L LR c t b m s R D
theorem TW.G{W0 w w':World}{tw c:Nat}{L:List Int}{LR:List Rs}(h:TW W0 w tw L LR c)(g:Go.Proofs.YtoefbpldmlebdaaGreatDoor.G w w'):TW W0 w' tw L LR c:=by
 obtain⟨t,b,m,s,R,D,h⟩:=h
 exact⟨t,b,m,s,R,D,h.blk.G g,fun j hj=>(h.pq j hj).G g,h.ap,h.tn,h.nw,h.tl,h.gg.trans g⟩
theorem PN.tw{W0 w w':World}{tw c j:Nat}{L:List Int}{LR:List Rs}{t b:Nat→Nat}{m:Nat→Ms}{s:Nat→Gs}{R:Nat→Rt}{D:Nat→Nat→Prop}(h:TWs W0 w tw L LR c t b m s R D)(hj:j<2)(hn:PN w w' (t j) (b j) L LR (s j) (D j) (c+1)):TW W0 w' tw L LR (c+1):=by
 obtain⟨m',s',R',D',hq,hc,hn⟩:=hn
 have htw:tw<w.heap.size:=cell_lt' (v:=ptr (t 0)) (h.blk.cell 0)
 have hsz:=h.gg.size
 refine⟨t,b,fun i=>if i=j then m' else m i,fun i=>if i=j then s' else s i,fun i=>if i=j then R' else R i,fun i=>if i=j then D' else D i,h.blk.chg hc (h.tn j hj),fun i hi=>?_,fun i1 i2 k h1 h2 hne=>?_,fun i hi=>?_,fun i hi k=>?_,h.tl,h.gg.of_chg hc (h.nw j hj)⟩
 ·by_cases e:i=j
  ·subst e;simp only[if_pos];exact hq
  ·simp only[if_neg e]
   have hp:=h.pq j hj
   exact((h.pq i hi).far hc (fun k hk hh=>h.ap i j k hi hj e hk hh) ⟨fun hh=>hh.elim (fun h5=>h5 hp.gt.gl.1) hp.dg.1,fun hh=>hh.elim (fun h5=>h5 hp.gt.gl.2) hp.dg.2⟩).more (Nat.le_succ _)
 ·by_cases e1:i1=j
  ·have e2:¬i2=j:=fun e=>hne (e1.trans e.symm)
   simp only[if_pos e1,if_neg e2]
   intro hk hh
   rcases hn k hk with h5|h5
   ·exact h.ap i2 j k h2 hj e2 hh h5
   ·have:=(h.pq i2 h2).dl hh;omega
  ·simp only[if_neg e1]
   by_cases e2:i2=j
   ·simp only[if_pos e2]
    intro hh hk
    rcases hn k hk with h5|h5
    ·exact h.ap i1 j k h1 hj e1 hh h5
    ·have:=(h.pq i1 h1).dl hh;omega
   ·simp only[if_neg e2]
    exact h.ap i1 i2 k h1 h2 hne
 ·by_cases e:i=j
  ·simp only[if_pos e]
   intro hk
   rcases hn _ hk with h5|h5
   ·exact h.tn j hj h5
   ·omega
  ·simp only[if_neg e];exact h.tn i hi
 ·by_cases e:i=j
  ·simp only[if_pos e]
   intro hk
   rcases hn _ hk with h5|h5
   ·exact h.nw j hj k h5
   ·omega
  ·simp only[if_neg e];exact h.nw i hi k
theorem step_any{W0 w:World}{tw c:Nat}{L:List Int}{LR:List Rs}(h:TW W0 w tw L LR c)(kd who x st md:Int)(r:Rs)(hx:R64 x)(hxl:x∈L)(hr:r∈LR)(hro:r.ok)(hL:L.length<100000000000)(hLR:LR.length<2000000000000)(hc:c<200000000000)(hcL:c*L.length<2000000000000) :
  Calls prog 12 #[ptr tw,.agg #[I kd,I who,I x,I st,I r.lv,.string r.lb,I r.id,I md]] w fun e w'=>e=.returned (.bool true)∧TW W0 w' tw L LR (c+1):=by
 obtain⟨t,b,m,s,R,D,h⟩:=h
 obtain⟨j,hj,hw⟩:=and1 who
 have htw:tw<w.heap.size:=cell_lt' (v:=ptr (t 0)) (h.blk.cell 0)
 have k1:w.cell? ⟨tw,j,none⟩=some (ptr (t j)):=by
  rcases(show j=0∨j=1 by omega)with e|e
  ·rw[e];exact h.blk.cell 0
  ·rw[e];exact h.blk.cell 1
 have k2:w.cell? ⟨tw,2+j,none⟩=some (ptr (b j)):=by
  rcases(show j=0∨j=1 by omega)with e|e
  ·rw[e];exact h.blk.cell 2
  ·rw[e];exact h.blk.cell 3
 have key:Calls prog 12 #[ptr tw,.agg #[I kd,I who,I x,I st,I r.lv,.string r.lb,I r.id,I md]] w fun e w'=>e=.returned (.bool true)∧PN w w' (t j) (b j) L LR (s j) (D j) (c+1):=by
  by_cases e1:kd=1
  ·rw[e1];exact step_begin (h.pq j hj) who x st md r hj hw k1 k2 htw hx hxl hr hro hL hLR hc hcL
  by_cases e2:kd=2
  ·rw[e2];exact step_ask (h.pq j hj) who x st md r hj hw k1 k2 htw hx hxl hr hro hL hLR hc hcL
  by_cases e3:kd=3
  ·rw[e3];exact step_end (h.pq j hj) who x st md r hj hw k1 k2 htw hx hxl hr hro hL hLR hc hcL
  by_cases e4:kd=4
  ·rw[e4];exact step_mode (h.pq j hj) who x st md r hj hw k1 k2 htw hx hxl hr hro hL hLR hc hcL
  by_cases e5:kd=5
  ·rw[e5];exact step_waiting (h.pq j hj) who x st md r hj hw k1 k2 htw hx hxl hr hro hL hLR hc hcL
  by_cases e6:kd=6
  ·rw[e6];exact step_wounders (h.pq j hj) who x st md r hj hw k1 k2 htw hx hxl hr hro hL hLR hc hcL
  by_cases e7:kd=7
  ·rw[e7];exact step_wounded (h.pq j hj) who x st md r hj hw k1 k2 htw hx hxl hr hro hL hLR hc hcL
  by_cases e8:kd=8
  ·rw[e8];exact step_holders (h.pq j hj) who x st md r hj hw k1 k2 htw hx hxl hr hro hL hLR hc hcL
  by_cases e9:kd=9
  ·rw[e9];exact step_queue (h.pq j hj) who x st md r hj hw k1 k2 htw hx hxl hr hro hL hLR hc hcL
  by_cases e10:kd=10
  ·rw[e10];exact step_live (h.pq j hj) who x st md r hj hw k1 k2 htw hx hxl hr hro hL hLR hc hcL
  by_cases e11:kd=11
  ·rw[e11];exact step_waits (h.pq j hj) who x st md r hj hw k1 k2 htw hx hxl hr hro hL hLR hc hcL
  exact step_none (h.pq j hj) kd who x st md r hj hw k1 k2 htw hx hxl hr hro hL hLR hc hcL e1 e2 e3 e4 e5 e6 e7 e8 e9 e10 e11
 refine key.mono ?_
 rintro e w' ⟨rfl,hn⟩
 exact⟨rfl,PN.tw h hj hn⟩
end
section
open Go.RowKit
theorem refnew(w:World):Calls prog 25 #[] w fun e w'=>∃b,e=.returned (ptr b)∧RT w' b ⟨[],[],[]⟩ (fun k=>k=b)∧G w w'∧w.heap.size≤b:=by
 go_enter func25,ntmps25
 go_wp2
 go_ret
 refine⟨w.heap.size,rfl,⟨.slice none 0 0,.slice none 0 0,.slice none 0 0,[],rfl,Blk.new w [.slice none 0 0,.slice none 0 0,.slice none 0 0] _,⟨rfl,.inl ⟨rfl,rfl⟩⟩,⟨rfl,.inl ⟨rfl,rfl⟩⟩,⟨rfl,.inl ⟨rfl,rfl⟩⟩,fun e he=>(by cases he),rfl,fun k hk=>(by cases hk),fun k hk=>(by cases hk),fun k hk=>(by cases hk),fun e he=>(by cases he),fun k hk=>(by cases hk),fun k hk=>?_⟩,(G.refl w).alloc _,Nat.le_refl _⟩
 simp only[World.size_alloc]
 omega
theorem rm_m0:RM ⟨[],[],[]⟩ m0:=⟨⟨List.nodup_nil,fun _ _ h=>(by cases h),fun _ h=>(by cases h)⟩,⟨List.nodup_nil,fun _ h=>(by cases h),fun _ _ h=>absurd rfl h,fun _=>rfl,fun _ h=>(by cases h)⟩⟩
structure BG(W0 w:World)(tw n:Nat)(L:List Int)(LR:List Rs)(vs:List Value)(t b:Nat→Nat)(s:Nat→Gs)(D:Nat→Nat→Prop):Prop where
 blk:Blk w tw 58 vs
 pq:∀j,j<n→PQ w (t j) (b j) m0 L LR (s j) ⟨[],[],[]⟩ (D j) 0
 ap:∀j i k,j<n→i<n→j≠i→PB (s j) (D j) k→¬PB (s i) (D i) k
 tn:∀j,j<n→¬PB (s j) (D j) tw
 nw:∀j,j<n→∀k,PB (s j) (D j) k→W0.heap.size≤k
 tl:W0.heap.size≤tw
 gg:G W0 w
section
variable {W0 w w1 w2 w3 w4:World} {tw n t' b':Nat} {L:List Int} {LR:List Rs} {vs vs':List Value} {t b:Nat→Nat} {s:Nat→Gs} {D:Nat→Nat→Prop} {s':Gs}
theorem BG.G(h:BG W0 w tw n L LR vs t b s D)(g:Go.Proofs.YtoefbpldmlebdaaGreatDoor.G w w1):BG W0 w1 tw n L LR vs t b s D:=⟨h.blk.G g,fun j hj=>(h.pq j hj).G g,h.ap,h.tn,h.nw,h.tl,h.gg.trans g⟩
theorem BG.more(h:BG W0 w tw n L LR vs t b s D)(hTb:Tb W0)(hT:TT w1 t' s')(hl:∀x,s'.lv x=none)(hp:∀r,s'.pl r=none)(g1:Go.Proofs.YtoefbpldmlebdaaGreatDoor.G w w1)(ho:∀k tg,s'.own k=some tg→w.heap.size≤k)(c2:Chg (fun k=>k=tw) w1 w2)(hR:RT w3 b' ⟨[],[],[]⟩ (fun k=>k=b'))(g3:Go.Proofs.YtoefbpldmlebdaaGreatDoor.G w2 w3)(hb:w2.heap.size≤b')(c4:Chg (fun k=>k=tw) w3 w4)(hB:Blk w4 tw 58 vs') :
  BG W0 w4 tw (n+1) L LR vs' (fun i=>if i=n then t' else t i) (fun i=>if i=n then b' else b i) (fun i=>if i=n then s' else s i) (fun i=>if i=n then(fun k=>k=b')else D i):=by
 have htw:=h.blk.lt
 have z0:=h.gg.size
 have z1:=g1.size
 have z2:=c2.size
 have z3:=g3.size
 have htl:=h.tl
 have hlf:=hTb.lf
 have hlj:=hTb.lj
 have hgl:¬1=tw∧¬0=tw:=⟨by omega,by omega⟩
 have own0:∀k,k<w.heap.size→s'.own k=none:=fun k hk=>by
  cases e:s'.own k with
  | none=>rfl
  | some tg=>have:=ho k tg e;omega
 have hGG:Go.Proofs.YtoefbpldmlebdaaGreatDoor.G W0 w4:=(((h.gg.trans g1).of_chg c2 (fun k hk=>by omega)).trans g3).of_chg c4 (fun k hk=>by omega)
 have hPB:∀k,PB s' (fun k=>k=b') k→w.heap.size≤k:=fun k hk=>by
  rcases hk with hk|hk
  ·exact Nat.le_of_not_lt fun h5=>hk (own0 k h5)
  ·omega
 have hTw:∀k,k=tw→s'.own k=none:=fun k hk=>own0 k (by omega)
 refine⟨hB,fun j hj=>?_,fun i1 i2 k h1 h2 hne=>?_,fun j hj=>?_,fun j hj k=>?_,h.tl,hGG⟩
 ·by_cases e:j=n
  ·subst e
   simp only[if_pos]
   refine⟨⟨((hT.chg c2 hTw).G g3).chg c4 hTw,hTb.G hGG,⟨own0 _ (by omega),own0 _ (by omega)⟩,⟨fun x=>(by rw[hl x];rfl),fun r q e=>(by rw[hp r] at e;cases e),fun r _=>⟨fun _=>rfl,rfl⟩⟩,iv_m0 L LR⟩,hR.chg c4 (fun k hk hh=>by omega),rm_m0,fun k hk=>?_,⟨fun hh=>by omega,fun hh=>by omega⟩,Nat.le_refl _,Nat.le_refl _⟩
   cases e:s'.own k with
   | none=>rfl
   | some tg=>have:=hT.lt k tg e;omega
  ·simp only[if_neg e]
   have hj':j<n:=by omega
   have hF:∀i,PB (s j) (D j) i→¬i=tw:=fun i hi e=>h.tn j hj' (e▸hi)
   exact((((h.pq j hj').G g1).far c2 hF hgl).G g3).far c4 hF hgl
 ·by_cases e1:i1=n
  ·have e2:¬i2=n:=fun e=>hne (e1.trans e.symm)
   simp only[if_pos e1,if_neg e2]
   intro hk hh
   have h5:=hPB k hk
   have h6:=(h.pq i2 (by omega)).dl hh
   omega
  ·simp only[if_neg e1]
   by_cases e2:i2=n
   ·simp only[if_pos e2]
    intro hh hk
    have h5:=hPB k hk
    have h6:=(h.pq i1 (by omega)).dl hh
    omega
   ·simp only[if_neg e2]
    exact h.ap i1 i2 k (by omega) (by omega) hne
 ·by_cases e:j=n
  ·simp only[if_pos e]
   intro hk
   have:=hPB _ hk
   omega
  ·simp only[if_neg e];exact h.tn j (by omega)
 ·by_cases e:j=n
  ·simp only[if_pos e]
   intro hk
   have:=hPB _ hk
   omega
  ·simp only[if_neg e];exact h.nw j (by omega) k
end
def VS(n:Nat)(t b:Nat→Nat):List Value:=match n with
 | 0=>[.pointer none,.pointer none,.pointer none,.pointer none]
 | 1=>[ptr (t 0),.pointer none,ptr (b 0),.pointer none]
 | _=>[ptr (t 0),ptr (t 1),ptr (b 0),ptr (b 1)]
theorem begin_tw(L:List Int)(LR:List Rs)(W:World)(hT:Tb W):Calls prog 11 #[] W fun e w'=>∃tw,e=.returned (.tuple #[ptr tw,.bool true])∧TW W w' tw L LR 0:=by
 have HTB:=hide hT
 clear hT
 go_enter func11,ntmps11
 go_wp2_with fail
 obtain⟨w2,hw2⟩:∃w2,w2=W.alloc (.cells #[.pointer none,.pointer none,.pointer none,.pointer none] 58):=⟨_,rfl⟩
 rw[←hw2]
 have HB0:Hid (BG W w2 W.heap.size 0 L LR (VS 0 (fun _=>0) (fun _=>0)) (fun _=>0) (fun _=>0) (fun _=>⟨0,0,fun _=>none,fun _=>none,fun _=>none⟩) (fun _ _=>False)):=by
  rw[hw2]
  exact⟨Blk.new W [.pointer none,.pointer none,.pointer none,.pointer none] 58,fun j hj=>absurd hj (Nat.not_lt_zero _),fun j _ _ hj=>absurd hj (Nat.not_lt_zero _),fun j hj=>absurd hj (Nat.not_lt_zero _),fun j hj=>absurd hj (Nat.not_lt_zero _),Nat.le_refl _,(G.refl W).alloc _⟩
 clear hw2
 generalize W.heap.size=tw at HB0⊢
 go_loopw [3] (fun iv wr=>∃(n:Nat) (t b:Nat→Nat) (s:Nat→Gs) (D:Nat→Nat→Prop),n≤2∧iv=I (n:Int)∧BG W wr tw n L LR (VS n t b) t b s D) (fun iv _=>2-(RowKit.intOf iv).toNat)
 case atStart=>exact⟨0,_,_,_,_,Nat.zero_le _,rfl,HB0.out⟩
 case round=>
  clear HB0
  obtain⟨n,t,b,s,D,hn,rfl,hB⟩:=hrel
  rcases(show n=0∨n=1∨n=2 by omega)with rfl|rfl|rfl
  ·clear hn
   have HBG:Hid (BG W wr tw 0 L LR [.pointer none,.pointer none,.pointer none,.pointer none] t b s D):=hB
   clear hB
   go_wp2_with fail
   refine wp_region_noPanic ?_
   refine wp_region_held_drew (S:=(fun _=>True)) (by kernel_rfl) (trivial) (fun hHeld=>?_)
   refine wpAnyH_take (i:=0) (v:=?_) rfl (by kernel_rfl) (by kernel_rfl) (by kernel_rfl) (fun _ _ _ h=>h) (Or.inl ⟨by rfl,?_⟩) hHeld ?_
   rotate_left 1
   ·(intro w hSw;(try dsimp only at hSw);go_simp;try with_reducible rfl)
   try simp only[Act.put,List.getElem_toArray,List.getElem_cons_zero,List.setIfInBounds_toArray,List.set_cons_zero,List.set_cons_succ]
   refine wpAnyH_take (i:=1) (v:=?_) rfl (by kernel_rfl) (by kernel_rfl) (by kernel_rfl) (fun _ _ _ h=>h) (Or.inl ⟨by rfl,?_⟩) hHeld ?_
   rotate_left 1
   ·(intro w hSw;(try dsimp only at hSw);go_simp;try with_reducible rfl)
   try simp only[Act.put,List.getElem_toArray,List.getElem_cons_zero,List.getElem_cons_succ,List.setIfInBounds_toArray,List.set_cons_zero,List.set_cons_succ]
   refine wpAnyH_take (i:=3) (v:=?_) rfl (by kernel_rfl) (by kernel_rfl) (by kernel_rfl) (fun _ _ _ h=>h) (Or.inl ⟨by rfl,?_⟩) hHeld ?_
   rotate_left 1
   ·(intro w hSw;(try dsimp only at hSw);go_simp;try with_reducible rfl)
   try simp only[Act.put,List.getElem_toArray,List.getElem_cons_zero,List.getElem_cons_succ,List.setIfInBounds_toArray,List.set_cons_zero,List.set_cons_succ]
   refine wpAnyH_take (i:=4) (v:=?_) rfl (by kernel_rfl) (by kernel_rfl) (by kernel_rfl) (fun _ _ _ h=>h) (Or.inl ⟨by rfl,?_⟩) hHeld ?_
   rotate_left 1
   ·(intro w hSw;(try dsimp only at hSw);go_simp;try with_reducible rfl)
   try simp only[Act.put,List.getElem_toArray,List.getElem_cons_zero,List.getElem_cons_succ,List.setIfInBounds_toArray,List.set_cons_zero,List.set_cons_succ]
   refine wpAnyH_ready (rs:=[2]) (by kernel_rfl) (by simp) (AllReadyH.cons rfl (fun K hK=>?_) AllReadyH.nil)
   clear hHeld
   go_simp
   (with_reducible refine(new_any _).mono ?_)
   rintro e w3 ⟨t',s',rfl,hT',hl',hp',g',ht',ho'⟩
   have HN1:Hid (TT w3 t' s'∧(∀x,s'.lv x=none)∧(∀r,s'.pl r=none)∧G wr.drew w3∧(∀k tg,s'.own k=some tg→wr.drew.heap.size≤k)):=⟨hT',hl',hp',g',ho'⟩
   have HB3:Hid (Blk w3 tw 58 [.pointer none,.pointer none,.pointer none,.pointer none]):=(HBG.out.blk.G ((G.refl wr).drew.trans g'))
   clear hT' hl' hp' g' ho' ht'
   refine hK.out _ _ (trivial) (fun hHeld=>?_)
   clear hK K
   try simp only[Act.put,List.getElem_toArray,List.getElem_cons_zero,List.getElem_cons_succ,List.setIfInBounds_toArray,List.set_cons_zero,List.set_cons_succ]
   refine wpAnyH_take (i:=5) (v:=?_) rfl (by kernel_rfl) (by kernel_rfl) (by kernel_rfl) (fun _ _ _ h=>h) (Or.inl ⟨by rfl,?_⟩) hHeld ?_
   rotate_left 1
   ·(intro w hSw;(try dsimp only at hSw);go_simp;try with_reducible rfl)
   try simp only[Act.put,List.getElem_toArray,List.getElem_cons_zero,List.getElem_cons_succ,List.setIfInBounds_toArray,List.set_cons_zero,List.set_cons_succ]
   refine wpAnyH_ready (rs:=[6]) (by kernel_rfl) (by simp) (AllReadyH.cons rfl (fun K hK=>?_) AllReadyH.nil)
   have hc:=HB3.out.cell
   have hf:=HB3.out.frozen
   clear hHeld
   go_simp
   refine hK.out _ _ (trivial) (fun hHeld=>?_)
   clear hK K
   try simp only[Act.put,List.getElem_toArray,List.getElem_cons_zero,List.getElem_cons_succ]
   refine wpAnyH_done (by kernel_rfl) ?_ _
   refine NoPanic.normal ?_
   obtain⟨w4,hw4⟩:∃w4,w4=w3.setCell ⟨tw,0,none⟩ (ptr t'):=⟨_,rfl⟩
   rw[←hw4]
   have HB4:Hid (Blk w4 tw 58 [ptr t',.pointer none,.pointer none,.pointer none]):=by rw[hw4];exact HB3.out.set 0 (ptr t')
   have HC4:Hid (Chg (fun k=>k=tw) w3 w4):=by rw[hw4];exact chg_setCell w3 _ (.inl rfl)
   clear hw4 HB3
   try go_wp2_with fail
   refine wp_region_noPanic ?_
   refine wp_region_held_drew (S:=(fun _=>True)) (by kernel_rfl) (trivial) (fun hHeld=>?_)
   refine wpAnyH_take (i:=0) (v:=?_) rfl (by kernel_rfl) (by kernel_rfl) (by kernel_rfl) (fun _ _ _ h=>h) (Or.inl ⟨by rfl,?_⟩) hHeld ?_
   rotate_left 1
   ·(intro w hSw;(try dsimp only at hSw);go_simp;try with_reducible rfl)
   try simp only[Act.put,List.getElem_toArray,List.getElem_cons_zero,List.setIfInBounds_toArray,List.set_cons_zero,List.set_cons_succ]
   refine wpAnyH_take (i:=1) (v:=?_) rfl (by kernel_rfl) (by kernel_rfl) (by kernel_rfl) (fun _ _ _ h=>h) (Or.inl ⟨by rfl,?_⟩) hHeld ?_
   rotate_left 1
   ·(intro w hSw;(try dsimp only at hSw);go_simp;try with_reducible rfl)
   try simp only[Act.put,List.getElem_toArray,List.getElem_cons_zero,List.getElem_cons_succ,List.setIfInBounds_toArray,List.set_cons_zero,List.set_cons_succ]
   refine wpAnyH_take (i:=3) (v:=?_) rfl (by kernel_rfl) (by kernel_rfl) (by kernel_rfl) (fun _ _ _ h=>h) (Or.inl ⟨by rfl,?_⟩) hHeld ?_
   rotate_left 1
   ·(intro w hSw;(try dsimp only at hSw);go_simp;try with_reducible rfl)
   try simp only[Act.put,List.getElem_toArray,List.getElem_cons_zero,List.getElem_cons_succ,List.setIfInBounds_toArray,List.set_cons_zero,List.set_cons_succ]
   refine wpAnyH_take (i:=4) (v:=?_) rfl (by kernel_rfl) (by kernel_rfl) (by kernel_rfl) (fun _ _ _ h=>h) (Or.inl ⟨by rfl,?_⟩) hHeld ?_
   rotate_left 1
   ·(intro w hSw;(try dsimp only at hSw);go_simp;try with_reducible rfl)
   try simp only[Act.put,List.getElem_toArray,List.getElem_cons_zero,List.getElem_cons_succ,List.setIfInBounds_toArray,List.set_cons_zero,List.set_cons_succ]
   refine wpAnyH_ready (rs:=[2]) (by kernel_rfl) (by simp) (AllReadyH.cons rfl (fun K hK=>?_) AllReadyH.nil)
   clear hHeld
   go_simp
   (with_reducible refine(refnew _).mono ?_)
   rintro e w5 ⟨b',rfl,hR',g',hb'⟩
   have HN2:Hid (RT w5 b' ⟨[],[],[]⟩ (fun k=>k=b')∧G w4.drew w5∧w4.drew.heap.size≤b'):=⟨hR',g',hb'⟩
   have HB5:Hid (Blk w5 tw 58 [ptr t',.pointer none,.pointer none,.pointer none]):=(HB4.out.G ((G.refl w4).drew.trans g'))
   clear hR' g' hb'
   refine hK.out _ _ (trivial) (fun hHeld=>?_)
   clear hK K
   try simp only[Act.put,List.getElem_toArray,List.getElem_cons_zero,List.getElem_cons_succ,List.setIfInBounds_toArray,List.set_cons_zero,List.set_cons_succ]
   refine wpAnyH_take (i:=5) (v:=?_) rfl (by kernel_rfl) (by kernel_rfl) (by kernel_rfl) (fun _ _ _ h=>h) (Or.inl ⟨by rfl,?_⟩) hHeld ?_
   rotate_left 1
   ·(intro w hSw;(try dsimp only at hSw);go_simp;try with_reducible rfl)
   try simp only[Act.put,List.getElem_toArray,List.getElem_cons_zero,List.getElem_cons_succ,List.setIfInBounds_toArray,List.set_cons_zero,List.set_cons_succ]
   refine wpAnyH_ready (rs:=[6]) (by kernel_rfl) (by simp) (AllReadyH.cons rfl (fun K hK=>?_) AllReadyH.nil)
   have hc:=HB5.out.cell
   have hf:=HB5.out.frozen
   clear hHeld
   go_simp
   refine hK.out _ _ (trivial) (fun hHeld=>?_)
   clear hK K
   try simp only[Act.put,List.getElem_toArray,List.getElem_cons_zero,List.getElem_cons_succ]
   refine wpAnyH_done (by kernel_rfl) ?_ _
   refine NoPanic.normal ?_
   obtain⟨w6,hw6⟩:∃w6,w6=w5.setCell ⟨tw,2,none⟩ (ptr b'):=⟨_,rfl⟩
   rw[←hw6]
   have HB6:Hid (Blk w6 tw 58 [ptr t',.pointer none,ptr b',.pointer none]):=by rw[hw6];exact HB5.out.set 2 (ptr b')
   have HC6:Hid (Chg (fun k=>k=tw) w5 w6):=by rw[hw6];exact chg_setCell w5 _ (.inl rfl)
   clear hw6 HB5
   have hc:=HB6.out.cell
   go_wp2_with fail
   exact⟨⟨1,_,_,_,_,by omega,rfl,(HBG.out.G (G.refl wr).drew).more HTB.out HN1.out.1 HN1.out.2.1 HN1.out.2.2.1 HN1.out.2.2.2.1 HN1.out.2.2.2.2 HC4.out HN2.out.1 ((G.refl w4).drew.trans HN2.out.2.1) HN2.out.2.2 HC6.out HB6.out⟩,by decide⟩
  ·clear hn
   have HBG:Hid (BG W wr tw 1 L LR [ptr (t 0),.pointer none,ptr (b 0),.pointer none] t b s D):=hB
   clear hB
   go_wp2_with fail
   refine wp_region_noPanic ?_
   refine wp_region_held_drew (S:=(fun _=>True)) (by kernel_rfl) (trivial) (fun hHeld=>?_)
   refine wpAnyH_take (i:=0) (v:=?_) rfl (by kernel_rfl) (by kernel_rfl) (by kernel_rfl) (fun _ _ _ h=>h) (Or.inl ⟨by rfl,?_⟩) hHeld ?_
   rotate_left 1
   ·(intro w hSw;(try dsimp only at hSw);go_simp;try with_reducible rfl)
   try simp only[Act.put,List.getElem_toArray,List.getElem_cons_zero,List.setIfInBounds_toArray,List.set_cons_zero,List.set_cons_succ]
   refine wpAnyH_take (i:=1) (v:=?_) rfl (by kernel_rfl) (by kernel_rfl) (by kernel_rfl) (fun _ _ _ h=>h) (Or.inl ⟨by rfl,?_⟩) hHeld ?_
   rotate_left 1
   ·(intro w hSw;(try dsimp only at hSw);go_simp;try with_reducible rfl)
   try simp only[Act.put,List.getElem_toArray,List.getElem_cons_zero,List.getElem_cons_succ,List.setIfInBounds_toArray,List.set_cons_zero,List.set_cons_succ]
   refine wpAnyH_take (i:=3) (v:=?_) rfl (by kernel_rfl) (by kernel_rfl) (by kernel_rfl) (fun _ _ _ h=>h) (Or.inl ⟨by rfl,?_⟩) hHeld ?_
   rotate_left 1
   ·(intro w hSw;(try dsimp only at hSw);go_simp;try with_reducible rfl)
   try simp only[Act.put,List.getElem_toArray,List.getElem_cons_zero,List.getElem_cons_succ,List.setIfInBounds_toArray,List.set_cons_zero,List.set_cons_succ]
   refine wpAnyH_take (i:=4) (v:=?_) rfl (by kernel_rfl) (by kernel_rfl) (by kernel_rfl) (fun _ _ _ h=>h) (Or.inl ⟨by rfl,?_⟩) hHeld ?_
   rotate_left 1
   ·(intro w hSw;(try dsimp only at hSw);go_simp;try with_reducible rfl)
   try simp only[Act.put,List.getElem_toArray,List.getElem_cons_zero,List.getElem_cons_succ,List.setIfInBounds_toArray,List.set_cons_zero,List.set_cons_succ]
   refine wpAnyH_ready (rs:=[2]) (by kernel_rfl) (by simp) (AllReadyH.cons rfl (fun K hK=>?_) AllReadyH.nil)
   clear hHeld
   go_simp
   (with_reducible refine(new_any _).mono ?_)
   rintro e w3 ⟨t',s',rfl,hT',hl',hp',g',ht',ho'⟩
   have HN1:Hid (TT w3 t' s'∧(∀x,s'.lv x=none)∧(∀r,s'.pl r=none)∧G wr.drew w3∧(∀k tg,s'.own k=some tg→wr.drew.heap.size≤k)):=⟨hT',hl',hp',g',ho'⟩
   have HB3:Hid (Blk w3 tw 58 [ptr (t 0),.pointer none,ptr (b 0),.pointer none]):=(HBG.out.blk.G ((G.refl wr).drew.trans g'))
   clear hT' hl' hp' g' ho' ht'
   refine hK.out _ _ (trivial) (fun hHeld=>?_)
   clear hK K
   try simp only[Act.put,List.getElem_toArray,List.getElem_cons_zero,List.getElem_cons_succ,List.setIfInBounds_toArray,List.set_cons_zero,List.set_cons_succ]
   refine wpAnyH_take (i:=5) (v:=?_) rfl (by kernel_rfl) (by kernel_rfl) (by kernel_rfl) (fun _ _ _ h=>h) (Or.inl ⟨by rfl,?_⟩) hHeld ?_
   rotate_left 1
   ·(intro w hSw;(try dsimp only at hSw);go_simp;try with_reducible rfl)
   try simp only[Act.put,List.getElem_toArray,List.getElem_cons_zero,List.getElem_cons_succ,List.setIfInBounds_toArray,List.set_cons_zero,List.set_cons_succ]
   refine wpAnyH_ready (rs:=[6]) (by kernel_rfl) (by simp) (AllReadyH.cons rfl (fun K hK=>?_) AllReadyH.nil)
   have hc:=HB3.out.cell
   have hf:=HB3.out.frozen
   clear hHeld
   go_simp
   refine hK.out _ _ (trivial) (fun hHeld=>?_)
   clear hK K
   try simp only[Act.put,List.getElem_toArray,List.getElem_cons_zero,List.getElem_cons_succ]
   refine wpAnyH_done (by kernel_rfl) ?_ _
   refine NoPanic.normal ?_
   obtain⟨w4,hw4⟩:∃w4,w4=w3.setCell ⟨tw,1,none⟩ (ptr t'):=⟨_,rfl⟩
   rw[←hw4]
   have HB4:Hid (Blk w4 tw 58 [ptr (t 0),ptr t',ptr (b 0),.pointer none]):=by rw[hw4];exact HB3.out.set 1 (ptr t')
   have HC4:Hid (Chg (fun k=>k=tw) w3 w4):=by rw[hw4];exact chg_setCell w3 _ (.inl rfl)
   clear hw4 HB3
   try go_wp2_with fail
   refine wp_region_noPanic ?_
   refine wp_region_held_drew (S:=(fun _=>True)) (by kernel_rfl) (trivial) (fun hHeld=>?_)
   refine wpAnyH_take (i:=0) (v:=?_) rfl (by kernel_rfl) (by kernel_rfl) (by kernel_rfl) (fun _ _ _ h=>h) (Or.inl ⟨by rfl,?_⟩) hHeld ?_
   rotate_left 1
   ·(intro w hSw;(try dsimp only at hSw);go_simp;try with_reducible rfl)
   try simp only[Act.put,List.getElem_toArray,List.getElem_cons_zero,List.setIfInBounds_toArray,List.set_cons_zero,List.set_cons_succ]
   refine wpAnyH_take (i:=1) (v:=?_) rfl (by kernel_rfl) (by kernel_rfl) (by kernel_rfl) (fun _ _ _ h=>h) (Or.inl ⟨by rfl,?_⟩) hHeld ?_
   rotate_left 1
   ·(intro w hSw;(try dsimp only at hSw);go_simp;try with_reducible rfl)
   try simp only[Act.put,List.getElem_toArray,List.getElem_cons_zero,List.getElem_cons_succ,List.setIfInBounds_toArray,List.set_cons_zero,List.set_cons_succ]
   refine wpAnyH_take (i:=3) (v:=?_) rfl (by kernel_rfl) (by kernel_rfl) (by kernel_rfl) (fun _ _ _ h=>h) (Or.inl ⟨by rfl,?_⟩) hHeld ?_
   rotate_left 1
   ·(intro w hSw;(try dsimp only at hSw);go_simp;try with_reducible rfl)
   try simp only[Act.put,List.getElem_toArray,List.getElem_cons_zero,List.getElem_cons_succ,List.setIfInBounds_toArray,List.set_cons_zero,List.set_cons_succ]
   refine wpAnyH_take (i:=4) (v:=?_) rfl (by kernel_rfl) (by kernel_rfl) (by kernel_rfl) (fun _ _ _ h=>h) (Or.inl ⟨by rfl,?_⟩) hHeld ?_
   rotate_left 1
   ·(intro w hSw;(try dsimp only at hSw);go_simp;try with_reducible rfl)
   try simp only[Act.put,List.getElem_toArray,List.getElem_cons_zero,List.getElem_cons_succ,List.setIfInBounds_toArray,List.set_cons_zero,List.set_cons_succ]
   refine wpAnyH_ready (rs:=[2]) (by kernel_rfl) (by simp) (AllReadyH.cons rfl (fun K hK=>?_) AllReadyH.nil)
   clear hHeld
   go_simp
   (with_reducible refine(refnew _).mono ?_)
   rintro e w5 ⟨b',rfl,hR',g',hb'⟩
   have HN2:Hid (RT w5 b' ⟨[],[],[]⟩ (fun k=>k=b')∧G w4.drew w5∧w4.drew.heap.size≤b'):=⟨hR',g',hb'⟩
   have HB5:Hid (Blk w5 tw 58 [ptr (t 0),ptr t',ptr (b 0),.pointer none]):=(HB4.out.G ((G.refl w4).drew.trans g'))
   clear hR' g' hb'
   refine hK.out _ _ (trivial) (fun hHeld=>?_)
   clear hK K
   try simp only[Act.put,List.getElem_toArray,List.getElem_cons_zero,List.getElem_cons_succ,List.setIfInBounds_toArray,List.set_cons_zero,List.set_cons_succ]
   refine wpAnyH_take (i:=5) (v:=?_) rfl (by kernel_rfl) (by kernel_rfl) (by kernel_rfl) (fun _ _ _ h=>h) (Or.inl ⟨by rfl,?_⟩) hHeld ?_
   rotate_left 1
   ·(intro w hSw;(try dsimp only at hSw);go_simp;try with_reducible rfl)
   try simp only[Act.put,List.getElem_toArray,List.getElem_cons_zero,List.getElem_cons_succ,List.setIfInBounds_toArray,List.set_cons_zero,List.set_cons_succ]
   refine wpAnyH_ready (rs:=[6]) (by kernel_rfl) (by simp) (AllReadyH.cons rfl (fun K hK=>?_) AllReadyH.nil)
   have hc:=HB5.out.cell
   have hf:=HB5.out.frozen
   clear hHeld
   go_simp
   refine hK.out _ _ (trivial) (fun hHeld=>?_)
   clear hK K
   try simp only[Act.put,List.getElem_toArray,List.getElem_cons_zero,List.getElem_cons_succ]
   refine wpAnyH_done (by kernel_rfl) ?_ _
   refine NoPanic.normal ?_
   obtain⟨w6,hw6⟩:∃w6,w6=w5.setCell ⟨tw,3,none⟩ (ptr b'):=⟨_,rfl⟩
   rw[←hw6]
   have HB6:Hid (Blk w6 tw 58 [ptr (t 0),ptr t',ptr (b 0),ptr b']):=by rw[hw6];exact HB5.out.set 3 (ptr b')
   have HC6:Hid (Chg (fun k=>k=tw) w5 w6):=by rw[hw6];exact chg_setCell w5 _ (.inl rfl)
   clear hw6 HB5
   have hc:=HB6.out.cell
   go_wp2_with fail
   exact⟨⟨2,_,_,_,_,by omega,rfl,(HBG.out.G (G.refl wr).drew).more HTB.out HN1.out.1 HN1.out.2.1 HN1.out.2.2.1 HN1.out.2.2.2.1 HN1.out.2.2.2.2 HC4.out HN2.out.1 ((G.refl w4).drew.trans HN2.out.2.1) HN2.out.2.2 HC6.out HB6.out⟩,by decide⟩
  ·have HH:Hid (TW W wr tw L LR 0):=⟨t,b,fun _=>m0,s,fun _=>⟨[],[],[]⟩,D,hB.blk,hB.pq,hB.ap,hB.tn,hB.nw,hB.tl,hB.gg⟩
   clear hn hB
   go_wp2_with fail
   go_ret2
   exact⟨tw,rfl,HH.out⟩
end
section
open Go.RowKit
theorem play_law(v:Value)(lo hi:Int)(N:Nat)(X:Nat→Lo)(W:World)(hS:ScL W v N X)(hX:∀i,i<N→R64 (X i).x∧(X i).r.ok)(hN:N≤1048576)(hT:Tb W) :
  Calls prog 9 #[v,I lo,I hi] W fun e W'=>e=.returned (.bool true)∧G W W':=by
 obtain⟨a,cap,rfl,hS⟩:=hS
 obtain⟨L,hLe⟩:∃L,L=(List.range N).map fun i=>(X i).x:=⟨_,rfl⟩
 obtain⟨LR,hLRe⟩:∃LR,LR=(List.range N).map fun i=>(X i).r:=⟨_,rfl⟩
 have HL:Hid (L.length<100000000000):=by rw[Hid,hLe];simp;omega
 have HLR:Hid (LR.length<2000000000000):=by rw[Hid,hLRe];simp;omega
 have HLL:Hid (∀n,n≤N→n*L.length<2000000000000):=fun n hn=>by
  have h1:L.length=N:=by rw[hLe];simp
  rw[h1]
  exact Nat.lt_of_le_of_lt (Nat.mul_le_mul (Nat.le_trans hn hN) hN) (by decide)
 have HXX:Hid (∀i,i<N→R64 (X i).x∧(X i).r.ok∧(X i).x∈L∧(X i).r∈LR):=fun i hi=>⟨(hX i hi).1,(hX i hi).2,by rw[hLe];exact List.mem_map.2 ⟨i,List.mem_range.2 hi,rfl⟩,by rw[hLRe];exact List.mem_map.2 ⟨i,List.mem_range.2 hi,rfl⟩⟩
 have HS:=hide hS;have HN:=hide hN
 have KB:=hide (begin_tw L LR W hT)
 clear hLe hLRe hX hS hN hT
 go_enter func9,ntmps9
 go_wp2_with (first|(go_at_call 11;(with_reducible refine KB.out.mono ?_);rintro e w2 ⟨tw,rfl,h2⟩)|fail)
 have H2:=hide h2
 clear h2 KB
 go_loopw [8,9] (fun ov iv wr=>∃i:Nat,i≤N∧ov=.bool true∧iv=I (i:Int)∧TW W wr tw L LR i) (fun _ iv _=>N-(RowKit.intOf iv).toNat)
 case atStart=>exact⟨0,Nat.zero_le _,rfl,rfl,H2.out⟩
 case round=>
  clear H2
  obtain⟨i,hi,rfl,rfl,hTW⟩:=hrel
  have hnN:=HN.out
  have HGW:Hid (G W wr):=by obtain⟨_,_,_,_,_,_,h⟩:=hTW;exact h.gg
  by_cases hlt:i<N
  ·rcases HS.out with h0|⟨sb,off,rfl,hops⟩
   ·omega
   obtain⟨x1,x2,x3,x4,x5,x6,x7,x8⟩:=(hops.G HGW.out).at hlt
   have hxx:=HXX.out i hlt
   generalize X i=oo at x1 x2 x3 x4 x5 x6 x7 x8 hxx
   obtain⟨okd,owho,ox,ost,orr,omd⟩:=oo
   dsimp only at x1 x2 x3 x4 x5 x6 x7 x8 hxx
   have i1:(i:Int)<(N:Int):=by omega
   have hwn:wrap64 ((i:Int)+1)=(i:Int)+1:=by unfold wrap64;omega
   have HWN:=hide hwn
   have KS:=hide (step_any hTW okd owho ox ost omd orr hxx.1 hxx.2.2.1 hxx.2.2.2 hxx.2.1 HL.out HLR.out (by omega) (HLL.out i hi))
   have HLT:=hide hlt
   clear hi hTW hnN hlt hops hxx hwn HGW
   go_wp2_with (first|(go_at_call 12;refine Hid.out ?_)|fail)
   unfold Hid
   refine KS.out.mono ?_
   rintro e w4 ⟨rfl,h4⟩
   have H4:=hide h4
   clear h4 KS x1 x2 x3 x4 x5 x6 x7 x8
   go_wp2_with fail
   exact⟨⟨i+1,HLT.out,rfl,by rw[HWN.out];exact rl1 i,H4.out⟩,by rw[HWN.out];exact ms_end HLT.out⟩
  ·have hne:i=N:=by omega
   subst hne
   have i1:¬((i:Int)<(i:Int)):=by omega
   clear hi hlt hTW hnN
   go_wp2_with fail
   go_ret
   exact⟨rfl,HGW.out⟩
theorem law_LocksBegins(v:Value)(N:Nat)(X:Nat→Lo)(W:World)(hS:ScL W v N X)(hX:∀i,i<N→R64 (X i).x∧(X i).r.ok)(hN:N≤1048576)(hT:Tb W) :
  Calls prog 3 #[v] W fun e W'=>e=.returned (.bool true)∧G W W':=by
 have KP:=hide (play_law v 1 1 N X W hS hX hN hT)
 clear hS hX hN hT
 go_enter func3,ntmps3
 go_wp2_with (first|(go_at_call 9;(with_reducible refine KP.out.mono ?_);rintro e w2 ⟨rfl,h2⟩)|fail)
 go_ret
 exact⟨rfl,h2⟩
end
end Go.Proofs.YtoefbpldmlebdaaGreatDoor
