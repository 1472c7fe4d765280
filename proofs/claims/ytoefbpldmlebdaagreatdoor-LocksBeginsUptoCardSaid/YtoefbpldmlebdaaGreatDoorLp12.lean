import Derived.Test.YtoefbpldmlebdaaGreatDoorLp8
namespace Go.Proofs.YtoefbpldmlebdaaGreatDoor
open Go.Proofs.Tryz
set_option maxHeartbeats 4000000
set_option maxRecDepth 100000
section
open Go.RowKit
theorem refnew(w:World):Calls prog 25 #[] w fun e w'=>∃b,e=.returned (ptr b)∧RT w' b ⟨[],[],[]⟩ (fun k=>k=b)∧G w w'∧w.heap.size≤b:=by
 go_enter func25,ntmps25
 go_wp2
 go_ret
 refine⟨w.heap.size,rfl,⟨.slice none 0 0,.slice none 0 0,.slice none 0 0,[],rfl,Blk.new w [.slice none 0 0,.slice none 0 0,.slice none 0 0] _,⟨rfl,.inl ⟨rfl,rfl⟩⟩,⟨rfl,.inl ⟨rfl,rfl⟩⟩,⟨rfl,.inl ⟨rfl,rfl⟩⟩,fun e he=>(by cases he),rfl,fun k hk=>(by cases hk),fun k hk=>(by cases hk),fun k hk=>(by cases hk),fun e he=>(by cases he),fun k hk=>(by cases hk),fun k hk=>?_⟩,(G.refl w).alloc _,Nat.le_refl _⟩
 simp only[World.size_alloc]
 omega
theorem rm_m0:RM ⟨[],[],[]⟩ m0:=⟨⟨List.nodup_nil,fun _ _ h=>(by cases h),fun _ h=>(by cases h)⟩,⟨List.nodup_nil,fun _ h=>(by cases h),fun _ _ h=>absurd rfl h,fun _=>rfl,fun _ h=>(by cases h)⟩⟩
structure BG(W0 w:World)(tw n:Nat)(L:List Int)(LR:List Rs)(vs:List Value)(t b:Nat→Nat)(s:Nat→Gs)(D:Nat→Nat→Prop):Prop where
 blk:Blk w tw 58 vs
 pq:∀j,j<n→PQ w (t j) (b j) m0 L LR (s j) ⟨[],[],[]⟩ (D j) 0
 ap:∀j i k,j<n→i<n→j≠i→PB (s j) (D j) k→¬PB (s i) (D i) k
 tn:∀j,j<n→¬PB (s j) (D j) tw
 nw:∀j,j<n→∀k,PB (s j) (D j) k→W0.heap.size≤k
 tl:W0.heap.size≤tw
 gg:G W0 w
section
variable {W0 w w1 w2 w3 w4:World} {tw n t' b':Nat} {L:List Int} {LR:List Rs} {vs vs':List Value} {t b:Nat→Nat} {s:Nat→Gs} {D:Nat→Nat→Prop} {s':Gs}
theorem BG.G(h:BG W0 w tw n L LR vs t b s D)(g:Go.Proofs.YtoefbpldmlebdaaGreatDoor.G w w1):BG W0 w1 tw n L LR vs t b s D:=⟨h.blk.G g,fun j hj=>(h.pq j hj).G g,h.ap,h.tn,h.nw,h.tl,h.gg.trans g⟩
theorem BG.more(h:BG W0 w tw n L LR vs t b s D)(hTb:Tb W0)(hT:TT w1 t' s')(hl:∀x,s'.lv x=none)(hp:∀r,s'.pl r=none)(g1:Go.Proofs.YtoefbpldmlebdaaGreatDoor.G w w1)(ho:∀k tg,s'.own k=some tg→w.heap.size≤k)(c2:Chg (fun k=>k=tw) w1 w2)(hR:RT w3 b' ⟨[],[],[]⟩ (fun k=>k=b'))(g3:Go.Proofs.YtoefbpldmlebdaaGreatDoor.G w2 w3)(hb:w2.heap.size≤b')(c4:Chg (fun k=>k=tw) w3 w4)(hB:Blk w4 tw 58 vs') :
  BG W0 w4 tw (n+1) L LR vs' (fun i=>if i=n then t' else t i) (fun i=>if i=n then b' else b i) (fun i=>if i=n then s' else s i) (fun i=>if i=n then(fun k=>k=b')else D i):=by
 have htw:=h.blk.lt
 have z0:=h.gg.size
 have z1:=g1.size
 have z2:=c2.size
 have z3:=g3.size
 have htl:=h.tl
 have hlf:=hTb.lf
 have hlj:=hTb.lj
 have hgl:¬1=tw∧¬0=tw:=⟨by omega,by omega⟩
 have own0:∀k,k<w.heap.size→s'.own k=none:=fun k hk=>by
  cases e:s'.own k with
  | none=>rfl
  | some tg=>have:=ho k tg e;omega
 have hGG:Go.Proofs.YtoefbpldmlebdaaGreatDoor.G W0 w4:=(((h.gg.trans g1).of_chg c2 (fun k hk=>by omega)).trans g3).of_chg c4 (fun k hk=>by omega)
 have hPB:∀k,PB s' (fun k=>k=b') k→w.heap.size≤k:=fun k hk=>by
  rcases hk with hk|hk
  ·exact Nat.le_of_not_lt fun h5=>hk (own0 k h5)
  ·omega
 have hTw:∀k,k=tw→s'.own k=none:=fun k hk=>own0 k (by omega)
 refine⟨hB,fun j hj=>?_,fun i1 i2 k h1 h2 hne=>?_,fun j hj=>?_,fun j hj k=>?_,h.tl,hGG⟩
 ·by_cases e:j=n
  ·subst e
   simp only[if_pos]
   refine⟨⟨((hT.chg c2 hTw).G g3).chg c4 hTw,hTb.G hGG,⟨own0 _ (by omega),own0 _ (by omega)⟩,⟨fun x=>(by rw[hl x];rfl),fun r q e=>(by rw[hp r] at e;cases e),fun r _=>⟨fun _=>rfl,rfl⟩⟩,iv_m0 L LR⟩,hR.chg c4 (fun k hk hh=>by omega),rm_m0,fun k hk=>?_,⟨fun hh=>by omega,fun hh=>by omega⟩,Nat.le_refl _,Nat.le_refl _⟩
   cases e:s'.own k with
   | none=>rfl
   | some tg=>have:=hT.lt k tg e;omega
  ·simp only[if_neg e]
   have hj':j<n:=by omega
   have hF:∀i,PB (s j) (D j) i→¬i=tw:=fun i hi e=>h.tn j hj' (e▸hi)
   exact((((h.pq j hj').G g1).far c2 hF hgl).G g3).far c4 hF hgl
 ·by_cases e1:i1=n
  ·have e2:¬i2=n:=fun e=>hne (e1.trans e.symm)
   simp only[if_pos e1,if_neg e2]
   intro hk hh
   have h5:=hPB k hk
   have h6:=(h.pq i2 (by omega)).dl hh
   omega
  ·simp only[if_neg e1]
   by_cases e2:i2=n
   ·simp only[if_pos e2]
    intro hh hk
    have h5:=hPB k hk
    have h6:=(h.pq i1 (by omega)).dl hh
    omega
   ·simp only[if_neg e2]
    exact h.ap i1 i2 k (by omega) (by omega) hne
 ·by_cases e:j=n
  ·simp only[if_pos e]
   intro hk
   have:=hPB _ hk
   omega
  ·simp only[if_neg e];exact h.tn j (by omega)
 ·by_cases e:j=n
  ·simp only[if_pos e]
   intro hk
   have:=hPB _ hk
   omega
  ·simp only[if_neg e];exact h.nw j (by omega) k
end
def VS(n:Nat)(t b:Nat→Nat):List Value:=match n with
 | 0=>[.pointer none,.pointer none,.pointer none,.pointer none]
 | 1=>[ptr (t 0),.pointer none,ptr (b 0),.pointer none]
 | _=>[ptr (t 0),ptr (t 1),ptr (b 0),ptr (b 1)]
theorem begin_tw(L:List Int)(LR:List Rs)(W:World)(hT:Tb W):Calls prog 11 #[] W fun e w'=>∃tw,e=.returned (.tuple #[ptr tw,.bool true])∧TW W w' tw L LR 0:=by
 have HTB:=hide hT
 clear hT
 go_enter func11,ntmps11
 go_wp2_with fail
 obtain⟨w2,hw2⟩:∃w2,w2=W.alloc (.cells #[.pointer none,.pointer none,.pointer none,.pointer none] 58):=⟨_,rfl⟩
 rw[←hw2]
 have HB0:Hid (BG W w2 W.heap.size 0 L LR (VS 0 (fun _=>0) (fun _=>0)) (fun _=>0) (fun _=>0) (fun _=>⟨0,0,fun _=>none,fun _=>none,fun _=>none⟩) (fun _ _=>False)):=by
  rw[hw2]
  exact⟨Blk.new W [.pointer none,.pointer none,.pointer none,.pointer none] 58,fun j hj=>absurd hj (Nat.not_lt_zero _),fun j _ _ hj=>absurd hj (Nat.not_lt_zero _),fun j hj=>absurd hj (Nat.not_lt_zero _),fun j hj=>absurd hj (Nat.not_lt_zero _),Nat.le_refl _,(G.refl W).alloc _⟩
 clear hw2
 generalize W.heap.size=tw at HB0⊢
 go_loopw [3] (fun iv wr=>∃(n:Nat) (t b:Nat→Nat) (s:Nat→Gs) (D:Nat→Nat→Prop),n≤2∧iv=I (n:Int)∧BG W wr tw n L LR (VS n t b) t b s D) (fun iv _=>2-(RowKit.intOf iv).toNat)
 case atStart=>exact⟨0,_,_,_,_,Nat.zero_le _,rfl,HB0.out⟩
 case round=>
  clear HB0
  obtain⟨n,t,b,s,D,hn,rfl,hB⟩:=hrel
  rcases(show n=0∨n=1∨n=2 by omega)with rfl|rfl|rfl
  ·clear hn
   have HBG:Hid (BG W wr tw 0 L LR [.pointer none,.pointer none,.pointer none,.pointer none] t b s D):=hB
   clear hB
   go_wp2_with fail
   refine wp_region_noPanic ?_
   refine wp_region_held_drew (S:=(fun _=>True)) (by kernel_rfl) (trivial) (fun hHeld=>?_)
   refine wpAnyH_take (i:=0) (v:=?_) rfl (by kernel_rfl) (by kernel_rfl) (by kernel_rfl) (fun _ _ _ h=>h) (Or.inl ⟨by rfl,?_⟩) hHeld ?_
   rotate_left 1
   ·(intro w hSw;(try dsimp only at hSw);go_simp;try with_reducible rfl)
   try simp only[Act.put,List.getElem_toArray,List.getElem_cons_zero,List.setIfInBounds_toArray,List.set_cons_zero,List.set_cons_succ]
   refine wpAnyH_take (i:=1) (v:=?_) rfl (by kernel_rfl) (by kernel_rfl) (by kernel_rfl) (fun _ _ _ h=>h) (Or.inl ⟨by rfl,?_⟩) hHeld ?_
   rotate_left 1
   ·(intro w hSw;(try dsimp only at hSw);go_simp;try with_reducible rfl)
   try simp only[Act.put,List.getElem_toArray,List.getElem_cons_zero,List.getElem_cons_succ,List.setIfInBounds_toArray,List.set_cons_zero,List.set_cons_succ]
   refine wpAnyH_take (i:=3) (v:=?_) rfl (by kernel_rfl) (by kernel_rfl) (by kernel_rfl) (fun _ _ _ h=>h) (Or.inl ⟨by rfl,?_⟩) hHeld ?_
   rotate_left 1
   ·(intro w hSw;(try dsimp only at hSw);go_simp;try with_reducible rfl)
   try simp only[Act.put,List.getElem_toArray,List.getElem_cons_zero,List.getElem_cons_succ,List.setIfInBounds_toArray,List.set_cons_zero,List.set_cons_succ]
   refine wpAnyH_take (i:=4) (v:=?_) rfl (by kernel_rfl) (by kernel_rfl) (by kernel_rfl) (fun _ _ _ h=>h) (Or.inl ⟨by rfl,?_⟩) hHeld ?_
   rotate_left 1
   ·(intro w hSw;(try dsimp only at hSw);go_simp;try with_reducible rfl)
   try simp only[Act.put,List.getElem_toArray,List.getElem_cons_zero,List.getElem_cons_succ,List.setIfInBounds_toArray,List.set_cons_zero,List.set_cons_succ]
   refine wpAnyH_ready (rs:=[2]) (by kernel_rfl) (by simp) (AllReadyH.cons rfl (fun K hK=>?_) AllReadyH.nil)
   clear hHeld
   go_simp
   (with_reducible refine(new_any _).mono ?_)
   rintro e w3 ⟨t',s',rfl,hT',hl',hp',g',ht',ho'⟩
   have HN1:Hid (TT w3 t' s'∧(∀x,s'.lv x=none)∧(∀r,s'.pl r=none)∧G wr.drew w3∧(∀k tg,s'.own k=some tg→wr.drew.heap.size≤k)):=⟨hT',hl',hp',g',ho'⟩
   have HB3:Hid (Blk w3 tw 58 [.pointer none,.pointer none,.pointer none,.pointer none]):=(HBG.out.blk.G ((G.refl wr).drew.trans g'))
   clear hT' hl' hp' g' ho' ht'
   refine hK.out _ _ (trivial) (fun hHeld=>?_)
   clear hK K
   try simp only[Act.put,List.getElem_toArray,List.getElem_cons_zero,List.getElem_cons_succ,List.setIfInBounds_toArray,List.set_cons_zero,List.set_cons_succ]
   refine wpAnyH_take (i:=5) (v:=?_) rfl (by kernel_rfl) (by kernel_rfl) (by kernel_rfl) (fun _ _ _ h=>h) (Or.inl ⟨by rfl,?_⟩) hHeld ?_
   rotate_left 1
   ·(intro w hSw;(try dsimp only at hSw);go_simp;try with_reducible rfl)
   try simp only[Act.put,List.getElem_toArray,List.getElem_cons_zero,List.getElem_cons_succ,List.setIfInBounds_toArray,List.set_cons_zero,List.set_cons_succ]
   refine wpAnyH_ready (rs:=[6]) (by kernel_rfl) (by simp) (AllReadyH.cons rfl (fun K hK=>?_) AllReadyH.nil)
   have hc:=HB3.out.cell
   have hf:=HB3.out.frozen
   clear hHeld
   go_simp
   refine hK.out _ _ (trivial) (fun hHeld=>?_)
   clear hK K
   try simp only[Act.put,List.getElem_toArray,List.getElem_cons_zero,List.getElem_cons_succ]
   refine wpAnyH_done (by kernel_rfl) ?_ _
   refine NoPanic.normal ?_
   obtain⟨w4,hw4⟩:∃w4,w4=w3.setCell ⟨tw,0,none⟩ (ptr t'):=⟨_,rfl⟩
   rw[←hw4]
   have HB4:Hid (Blk w4 tw 58 [ptr t',.pointer none,.pointer none,.pointer none]):=by rw[hw4];exact HB3.out.set 0 (ptr t')
   have HC4:Hid (Chg (fun k=>k=tw) w3 w4):=by rw[hw4];exact chg_setCell w3 _ (.inl rfl)
   clear hw4 HB3
   try go_wp2_with fail
   refine wp_region_noPanic ?_
   refine wp_region_held_drew (S:=(fun _=>True)) (by kernel_rfl) (trivial) (fun hHeld=>?_)
   refine wpAnyH_take (i:=0) (v:=?_) rfl (by kernel_rfl) (by kernel_rfl) (by kernel_rfl) (fun _ _ _ h=>h) (Or.inl ⟨by rfl,?_⟩) hHeld ?_
   rotate_left 1
   ·(intro w hSw;(try dsimp only at hSw);go_simp;try with_reducible rfl)
   try simp only[Act.put,List.getElem_toArray,List.getElem_cons_zero,List.setIfInBounds_toArray,List.set_cons_zero,List.set_cons_succ]
   refine wpAnyH_take (i:=1) (v:=?_) rfl (by kernel_rfl) (by kernel_rfl) (by kernel_rfl) (fun _ _ _ h=>h) (Or.inl ⟨by rfl,?_⟩) hHeld ?_
   rotate_left 1
   ·(intro w hSw;(try dsimp only at hSw);go_simp;try with_reducible rfl)
   try simp only[Act.put,List.getElem_toArray,List.getElem_cons_zero,List.getElem_cons_succ,List.setIfInBounds_toArray,List.set_cons_zero,List.set_cons_succ]
   refine wpAnyH_take (i:=3) (v:=?_) rfl (by kernel_rfl) (by kernel_rfl) (by kernel_rfl) (fun _ _ _ h=>h) (Or.inl ⟨by rfl,?_⟩) hHeld ?_
   rotate_left 1
   ·(intro w hSw;(try dsimp only at hSw);go_simp;try with_reducible rfl)
   try simp only[Act.put,List.getElem_toArray,List.getElem_cons_zero,List.getElem_cons_succ,List.setIfInBounds_toArray,List.set_cons_zero,List.set_cons_succ]
   refine wpAnyH_take (i:=4) (v:=?_) rfl (by kernel_rfl) (by kernel_rfl) (by kernel_rfl) (fun _ _ _ h=>h) (Or.inl ⟨by rfl,?_⟩) hHeld ?_
   rotate_left 1
   ·(intro w hSw;(try dsimp only at hSw);go_simp;try with_reducible rfl)
   try simp only[Act.put,List.getElem_toArray,List.getElem_cons_zero,List.getElem_cons_succ,List.setIfInBounds_toArray,List.set_cons_zero,List.set_cons_succ]
   refine wpAnyH_ready (rs:=[2]) (by kernel_rfl) (by simp) (AllReadyH.cons rfl (fun K hK=>?_) AllReadyH.nil)
   clear hHeld
   go_simp
   (with_reducible refine(refnew _).mono ?_)
   rintro e w5 ⟨b',rfl,hR',g',hb'⟩
   have HN2:Hid (RT w5 b' ⟨[],[],[]⟩ (fun k=>k=b')∧G w4.drew w5∧w4.drew.heap.size≤b'):=⟨hR',g',hb'⟩
   have HB5:Hid (Blk w5 tw 58 [ptr t',.pointer none,.pointer none,.pointer none]):=(HB4.out.G ((G.refl w4).drew.trans g'))
   clear hR' g' hb'
   refine hK.out _ _ (trivial) (fun hHeld=>?_)
   clear hK K
   try simp only[Act.put,List.getElem_toArray,List.getElem_cons_zero,List.getElem_cons_succ,List.setIfInBounds_toArray,List.set_cons_zero,List.set_cons_succ]
   refine wpAnyH_take (i:=5) (v:=?_) rfl (by kernel_rfl) (by kernel_rfl) (by kernel_rfl) (fun _ _ _ h=>h) (Or.inl ⟨by rfl,?_⟩) hHeld ?_
   rotate_left 1
   ·(intro w hSw;(try dsimp only at hSw);go_simp;try with_reducible rfl)
   try simp only[Act.put,List.getElem_toArray,List.getElem_cons_zero,List.getElem_cons_succ,List.setIfInBounds_toArray,List.set_cons_zero,List.set_cons_succ]
   refine wpAnyH_ready (rs:=[6]) (by kernel_rfl) (by simp) (AllReadyH.cons rfl (fun K hK=>?_) AllReadyH.nil)
   have hc:=HB5.out.cell
   have hf:=HB5.out.frozen
   clear hHeld
   go_simp
   refine hK.out _ _ (trivial) (fun hHeld=>?_)
   clear hK K
   try simp only[Act.put,List.getElem_toArray,List.getElem_cons_zero,List.getElem_cons_succ]
   refine wpAnyH_done (by kernel_rfl) ?_ _
   refine NoPanic.normal ?_
   obtain⟨w6,hw6⟩:∃w6,w6=w5.setCell ⟨tw,2,none⟩ (ptr b'):=⟨_,rfl⟩
   rw[←hw6]
   have HB6:Hid (Blk w6 tw 58 [ptr t',.pointer none,ptr b',.pointer none]):=by rw[hw6];exact HB5.out.set 2 (ptr b')
   have HC6:Hid (Chg (fun k=>k=tw) w5 w6):=by rw[hw6];exact chg_setCell w5 _ (.inl rfl)
   clear hw6 HB5
   have hc:=HB6.out.cell
   go_wp2_with fail
   exact⟨⟨1,_,_,_,_,by omega,rfl,(HBG.out.G (G.refl wr).drew).more HTB.out HN1.out.1 HN1.out.2.1 HN1.out.2.2.1 HN1.out.2.2.2.1 HN1.out.2.2.2.2 HC4.out HN2.out.1 ((G.refl w4).drew.trans HN2.out.2.1) HN2.out.2.2 HC6.out HB6.out⟩,by decide⟩
  ·clear hn
   have HBG:Hid (BG W wr tw 1 L LR [ptr (t 0),.pointer none,ptr (b 0),.pointer none] t b s D):=hB
   clear hB
   go_wp2_with fail
   refine wp_region_noPanic ?_
   refine wp_region_held_drew (S:=(fun _=>True)) (by kernel_rfl) (trivial) (fun hHeld=>?_)
   refine wpAnyH_take (i:=0) (v:=?_) rfl (by kernel_rfl) (by kernel_rfl) (by kernel_rfl) (fun _ _ _ h=>h) (Or.inl ⟨by rfl,?_⟩) hHeld ?_
   rotate_left 1
   ·(intro w hSw;(try dsimp only at hSw);go_simp;try with_reducible rfl)
   try simp only[Act.put,List.getElem_toArray,List.getElem_cons_zero,List.setIfInBounds_toArray,List.set_cons_zero,List.set_cons_succ]
   refine wpAnyH_take (i:=1) (v:=?_) rfl (by kernel_rfl) (by kernel_rfl) (by kernel_rfl) (fun _ _ _ h=>h) (Or.inl ⟨by rfl,?_⟩) hHeld ?_
   rotate_left 1
   ·(intro w hSw;(try dsimp only at hSw);go_simp;try with_reducible rfl)
   try simp only[Act.put,List.getElem_toArray,List.getElem_cons_zero,List.getElem_cons_succ,List.setIfInBounds_toArray,List.set_cons_zero,List.set_cons_succ]
   refine wpAnyH_take (i:=3) (v:=?_) rfl (by kernel_rfl) (by kernel_rfl) (by kernel_rfl) (fun _ _ _ h=>h) (Or.inl ⟨by rfl,?_⟩) hHeld ?_
   rotate_left 1
   ·(intro w hSw;(try dsimp only at hSw);go_simp;try with_reducible rfl)
   try simp only[Act.put,List.getElem_toArray,List.getElem_cons_zero,List.getElem_cons_succ,List.setIfInBounds_toArray,List.set_cons_zero,List.set_cons_succ]
   refine wpAnyH_take (i:=4) (v:=?_) rfl (by kernel_rfl) (by kernel_rfl) (by kernel_rfl) (fun _ _ _ h=>h) (Or.inl ⟨by rfl,?_⟩) hHeld ?_
   rotate_left 1
   ·(intro w hSw;(try dsimp only at hSw);go_simp;try with_reducible rfl)
   try simp only[Act.put,List.getElem_toArray,List.getElem_cons_zero,List.getElem_cons_succ,List.setIfInBounds_toArray,List.set_cons_zero,List.set_cons_succ]
   refine wpAnyH_ready (rs:=[2]) (by kernel_rfl) (by simp) (AllReadyH.cons rfl (fun K hK=>?_) AllReadyH.nil)
   clear hHeld
   go_simp
   (with_reducible refine(new_any _).mono ?_)
   rintro e w3 ⟨t',s',rfl,hT',hl',hp',g',ht',ho'⟩
   have HN1:Hid (TT w3 t' s'∧(∀x,s'.lv x=none)∧(∀r,s'.pl r=none)∧G wr.drew w3∧(∀k tg,s'.own k=some tg→wr.drew.heap.size≤k)):=⟨hT',hl',hp',g',ho'⟩
   have HB3:Hid (Blk w3 tw 58 [ptr (t 0),.pointer none,ptr (b 0),.pointer none]):=(HBG.out.blk.G ((G.refl wr).drew.trans g'))
   clear hT' hl' hp' g' ho' ht'
   refine hK.out _ _ (trivial) (fun hHeld=>?_)
   clear hK K
   try simp only[Act.put,List.getElem_toArray,List.getElem_cons_zero,List.getElem_cons_succ,List.setIfInBounds_toArray,List.set_cons_zero,List.set_cons_succ]
   refine wpAnyH_take (i:=5) (v:=?_) rfl (by kernel_rfl) (by kernel_rfl) (by kernel_rfl) (fun _ _ _ h=>h) (Or.inl ⟨by rfl,?_⟩) hHeld ?_
   rotate_left 1
   ·(intro w hSw;(try dsimp only at hSw);go_simp;try with_reducible rfl)
   try simp only[Act.put,List.getElem_toArray,List.getElem_cons_zero,List.getElem_cons_succ,List.setIfInBounds_toArray,List.set_cons_zero,List.set_cons_succ]
   refine wpAnyH_ready (rs:=[6]) (by kernel_rfl) (by simp) (AllReadyH.cons rfl (fun K hK=>?_) AllReadyH.nil)
   have hc:=HB3.out.cell
   have hf:=HB3.out.frozen
   clear hHeld
   go_simp
   refine hK.out _ _ (trivial) (fun hHeld=>?_)
   clear hK K
   try simp only[Act.put,List.getElem_toArray,List.getElem_cons_zero,List.getElem_cons_succ]
   refine wpAnyH_done (by kernel_rfl) ?_ _
   refine NoPanic.normal ?_
   obtain⟨w4,hw4⟩:∃w4,w4=w3.setCell ⟨tw,1,none⟩ (ptr t'):=⟨_,rfl⟩
   rw[←hw4]
   have HB4:Hid (Blk w4 tw 58 [ptr (t 0),ptr t',ptr (b 0),.pointer none]):=by rw[hw4];exact HB3.out.set 1 (ptr t')
   have HC4:Hid (Chg (fun k=>k=tw) w3 w4):=by rw[hw4];exact chg_setCell w3 _ (.inl rfl)
   clear hw4 HB3
   try go_wp2_with fail
   refine wp_region_noPanic ?_
   refine wp_region_held_drew (S:=(fun _=>True)) (by kernel_rfl) (trivial) (fun hHeld=>?_)
   refine wpAnyH_take (i:=0) (v:=?_) rfl (by kernel_rfl) (by kernel_rfl) (by kernel_rfl) (fun _ _ _ h=>h) (Or.inl ⟨by rfl,?_⟩) hHeld ?_
   rotate_left 1
   ·(intro w hSw;(try dsimp only at hSw);go_simp;try with_reducible rfl)
   try simp only[Act.put,List.getElem_toArray,List.getElem_cons_zero,List.setIfInBounds_toArray,List.set_cons_zero,List.set_cons_succ]
   refine wpAnyH_take (i:=1) (v:=?_) rfl (by kernel_rfl) (by kernel_rfl) (by kernel_rfl) (fun _ _ _ h=>h) (Or.inl ⟨by rfl,?_⟩) hHeld ?_
   rotate_left 1
   ·(intro w hSw;(try dsimp only at hSw);go_simp;try with_reducible rfl)
   try simp only[Act.put,List.getElem_toArray,List.getElem_cons_zero,List.getElem_cons_succ,List.setIfInBounds_toArray,List.set_cons_zero,List.set_cons_succ]
   refine wpAnyH_take (i:=3) (v:=?_) rfl (by kernel_rfl) (by kernel_rfl) (by kernel_rfl) (fun _ _ _ h=>h) (Or.inl ⟨by rfl,?_⟩) hHeld ?_
   rotate_left 1
   ·(intro w hSw;(try dsimp only at hSw);go_simp;try with_reducible rfl)
   try simp only[Act.put,List.getElem_toArray,List.getElem_cons_zero,List.getElem_cons_succ,List.setIfInBounds_toArray,List.set_cons_zero,List.set_cons_succ]
   refine wpAnyH_take (i:=4) (v:=?_) rfl (by kernel_rfl) (by kernel_rfl) (by kernel_rfl) (fun _ _ _ h=>h) (Or.inl ⟨by rfl,?_⟩) hHeld ?_
   rotate_left 1
   ·(intro w hSw;(try dsimp only at hSw);go_simp;try with_reducible rfl)
   try simp only[Act.put,List.getElem_toArray,List.getElem_cons_zero,List.getElem_cons_succ,List.setIfInBounds_toArray,List.set_cons_zero,List.set_cons_succ]
   refine wpAnyH_ready (rs:=[2]) (by kernel_rfl) (by simp) (AllReadyH.cons rfl (fun K hK=>?_) AllReadyH.nil)
   clear hHeld
   go_simp
   (with_reducible refine(refnew _).mono ?_)
   rintro e w5 ⟨b',rfl,hR',g',hb'⟩
   have HN2:Hid (RT w5 b' ⟨[],[],[]⟩ (fun k=>k=b')∧G w4.drew w5∧w4.drew.heap.size≤b'):=⟨hR',g',hb'⟩
   have HB5:Hid (Blk w5 tw 58 [ptr (t 0),ptr t',ptr (b 0),.pointer none]):=(HB4.out.G ((G.refl w4).drew.trans g'))
   clear hR' g' hb'
   refine hK.out _ _ (trivial) (fun hHeld=>?_)
   clear hK K
   try simp only[Act.put,List.getElem_toArray,List.getElem_cons_zero,List.getElem_cons_succ,List.setIfInBounds_toArray,List.set_cons_zero,List.set_cons_succ]
   refine wpAnyH_take (i:=5) (v:=?_) rfl (by kernel_rfl) (by kernel_rfl) (by kernel_rfl) (fun _ _ _ h=>h) (Or.inl ⟨by rfl,?_⟩) hHeld ?_
   rotate_left 1
   ·(intro w hSw;(try dsimp only at hSw);go_simp;try with_reducible rfl)
   try simp only[Act.put,List.getElem_toArray,List.getElem_cons_zero,List.getElem_cons_succ,List.setIfInBounds_toArray,List.set_cons_zero,List.set_cons_succ]
   refine wpAnyH_ready (rs:=[6]) (by kernel_rfl) (by simp) (AllReadyH.cons rfl (fun K hK=>?_) AllReadyH.nil)
   have hc:=HB5.out.cell
   have hf:=HB5.out.frozen
   clear hHeld
   go_simp
   refine hK.out _ _ (trivial) (fun hHeld=>?_)
   clear hK K
   try simp only[Act.put,List.getElem_toArray,List.getElem_cons_zero,List.getElem_cons_succ]
   refine wpAnyH_done (by kernel_rfl) ?_ _
   refine NoPanic.normal ?_
   obtain⟨w6,hw6⟩:∃w6,w6=w5.setCell ⟨tw,3,none⟩ (ptr b'):=⟨_,rfl⟩
   rw[←hw6]
   have HB6:Hid (Blk w6 tw 58 [ptr (t 0),ptr t',ptr (b 0),ptr b']):=by rw[hw6];exact HB5.out.set 3 (ptr b')
   have HC6:Hid (Chg (fun k=>k=tw) w5 w6):=by rw[hw6];exact chg_setCell w5 _ (.inl rfl)
   clear hw6 HB5
   have hc:=HB6.out.cell
   go_wp2_with fail
   exact⟨⟨2,_,_,_,_,by omega,rfl,(HBG.out.G (G.refl wr).drew).more HTB.out HN1.out.1 HN1.out.2.1 HN1.out.2.2.1 HN1.out.2.2.2.1 HN1.out.2.2.2.2 HC4.out HN2.out.1 ((G.refl w4).drew.trans HN2.out.2.1) HN2.out.2.2 HC6.out HB6.out⟩,by decide⟩
  ·have HH:Hid (TW W wr tw L LR 0):=⟨t,b,fun _=>m0,s,fun _=>⟨[],[],[]⟩,D,hB.blk,hB.pq,hB.ap,hB.tn,hB.nw,hB.tl,hB.gg⟩
   clear hn hB
   go_wp2_with fail
   go_ret2
   exact⟨tw,rfl,HH.out⟩
end
section
open Go.RowKit
theorem play_law(v:Value)(lo hi:Int)(N:Nat)(X:Nat→Lo)(W:World)(hS:ScL W v N X)(hX:∀i,i<N→R64 (X i).x∧(X i).r.ok)(hN:N≤1048576)(hT:Tb W) :
  Calls prog 9 #[v,I lo,I hi] W fun e W'=>e=.returned (.bool true)∧G W W':=by
 obtain⟨a,cap,rfl,hS⟩:=hS
 obtain⟨L,hLe⟩:∃L,L=(List.range N).map fun i=>(X i).x:=⟨_,rfl⟩
 obtain⟨LR,hLRe⟩:∃LR,LR=(List.range N).map fun i=>(X i).r:=⟨_,rfl⟩
 have HL:Hid (L.length<100000000000):=by rw[Hid,hLe];simp;omega
 have HLR:Hid (LR.length<2000000000000):=by rw[Hid,hLRe];simp;omega
 have HLL:Hid (∀n,n≤N→n*L.length<2000000000000):=fun n hn=>by
  have h1:L.length=N:=by rw[hLe];simp
  rw[h1]
  exact Nat.lt_of_le_of_lt (Nat.mul_le_mul (Nat.le_trans hn hN) hN) (by decide)
 have HXX:Hid (∀i,i<N→R64 (X i).x∧(X i).r.ok∧(X i).x∈L∧(X i).r∈LR):=fun i hi=>⟨(hX i hi).1,(hX i hi).2,by rw[hLe];exact List.mem_map.2 ⟨i,List.mem_range.2 hi,rfl⟩,by rw[hLRe];exact List.mem_map.2 ⟨i,List.mem_range.2 hi,rfl⟩⟩
 have HS:=hide hS;have HN:=hide hN
 have KB:=hide (begin_tw L LR W hT)
 clear hLe hLRe hX hS hN hT
 go_enter func9,ntmps9
 go_wp2_with (first|(go_at_call 11;(with_reducible refine KB.out.mono ?_);rintro e w2 ⟨tw,rfl,h2⟩)|fail)
 have H2:=hide h2
 clear h2 KB
 go_loopw [8,9] (fun ov iv wr=>∃i:Nat,i≤N∧ov=.bool true∧iv=I (i:Int)∧TW W wr tw L LR i) (fun _ iv _=>N-(RowKit.intOf iv).toNat)
 case atStart=>exact⟨0,Nat.zero_le _,rfl,rfl,H2.out⟩
 case round=>
  clear H2
  obtain⟨i,hi,rfl,rfl,hTW⟩:=hrel
  have hnN:=HN.out
  have HGW:Hid (G W wr):=by obtain⟨_,_,_,_,_,_,h⟩:=hTW;exact h.gg
  by_cases hlt:i<N
  ·rcases HS.out with h0|⟨sb,off,rfl,hops⟩
   ·omega
   obtain⟨x1,x2,x3,x4,x5,x6,x7,x8⟩:=(hops.G HGW.out).at hlt
   have hxx:=HXX.out i hlt
   generalize X i=oo at x1 x2 x3 x4 x5 x6 x7 x8 hxx
   obtain⟨okd,owho,ox,ost,orr,omd⟩:=oo
   dsimp only at x1 x2 x3 x4 x5 x6 x7 x8 hxx
   have i1:(i:Int)<(N:Int):=by omega
   have hwn:wrap64 ((i:Int)+1)=(i:Int)+1:=by unfold wrap64;omega
   have HWN:=hide hwn
   have KS:=hide (step_any hTW okd owho ox ost omd orr hxx.1 hxx.2.2.1 hxx.2.2.2 hxx.2.1 HL.out HLR.out (by omega) (HLL.out i hi))
   have HLT:=hide hlt
   clear hi hTW hnN hlt hops hxx hwn HGW
   go_wp2_with (first|(go_at_call 12;refine Hid.out ?_)|fail)
   unfold Hid
   refine KS.out.mono ?_
   rintro e w4 ⟨rfl,h4⟩
   have H4:=hide h4
   clear h4 KS x1 x2 x3 x4 x5 x6 x7 x8
   go_wp2_with fail
   exact⟨⟨i+1,HLT.out,rfl,by rw[HWN.out];exact rl1 i,H4.out⟩,by rw[HWN.out];exact ms_end HLT.out⟩
  ·have hne:i=N:=by omega
   subst hne
   have i1:¬((i:Int)<(i:Int)):=by omega
   clear hi hlt hTW hnN
   go_wp2_with fail
   go_ret
   exact⟨rfl,HGW.out⟩
theorem law_LocksBegins(v:Value)(N:Nat)(X:Nat→Lo)(W:World)(hS:ScL W v N X)(hX:∀i,i<N→R64 (X i).x∧(X i).r.ok)(hN:N≤1048576)(hT:Tb W) :
  Calls prog 3 #[v] W fun e W'=>e=.returned (.bool true)∧G W W':=by
 have KP:=hide (play_law v 1 1 N X W hS hX hN hT)
 clear hS hX hN hT
 go_enter func3,ntmps3
 go_wp2_with (first|(go_at_call 9;(with_reducible refine KP.out.mono ?_);rintro e w2 ⟨rfl,h2⟩)|fail)
 go_ret
 exact⟨rfl,h2⟩
theorem law_LocksAsks(v:Value)(N:Nat)(X:Nat→Lo)(W:World)(hS:ScL W v N X)(hX:∀i,i<N→R64 (X i).x∧(X i).r.ok)(hN:N≤1048576)(hT:Tb W) :
  Calls prog 4 #[v] W fun e W'=>e=.returned (.bool true)∧G W W':=by
 have KP:=hide (play_law v 2 2 N X W hS hX hN hT)
 clear hS hX hN hT
 go_enter func4,ntmps4
 go_wp2_with (first|(go_at_call 9;(with_reducible refine KP.out.mono ?_);rintro e w2 ⟨rfl,h2⟩)|fail)
 go_ret
 exact⟨rfl,h2⟩
theorem law_LocksEnds(v:Value)(N:Nat)(X:Nat→Lo)(W:World)(hS:ScL W v N X)(hX:∀i,i<N→R64 (X i).x∧(X i).r.ok)(hN:N≤1048576)(hT:Tb W) :
  Calls prog 5 #[v] W fun e W'=>e=.returned (.bool true)∧G W W':=by
 have KP:=hide (play_law v 3 3 N X W hS hX hN hT)
 clear hS hX hN hT
 go_enter func5,ntmps5
 go_wp2_with (first|(go_at_call 9;(with_reducible refine KP.out.mono ?_);rintro e w2 ⟨rfl,h2⟩)|fail)
 go_ret
 exact⟨rfl,h2⟩
theorem law_LocksTells(v:Value)(N:Nat)(X:Nat→Lo)(W:World)(hS:ScL W v N X)(hX:∀i,i<N→R64 (X i).x∧(X i).r.ok)(hN:N≤1048576)(hT:Tb W) :
  Calls prog 6 #[v] W fun e W'=>e=.returned (.bool true)∧G W W':=by
 have KP:=hide (play_law v 4 7 N X W hS hX hN hT)
 clear hS hX hN hT
 go_enter func6,ntmps6
 go_wp2_with (first|(go_at_call 9;(with_reducible refine KP.out.mono ?_);rintro e w2 ⟨rfl,h2⟩)|fail)
 go_ret
 exact⟨rfl,h2⟩
theorem law_LocksLists(v:Value)(N:Nat)(X:Nat→Lo)(W:World)(hS:ScL W v N X)(hX:∀i,i<N→R64 (X i).x∧(X i).r.ok)(hN:N≤1048576)(hT:Tb W) :
  Calls prog 7 #[v] W fun e W'=>e=.returned (.bool true)∧G W W':=by
 have KP:=hide (play_law v 8 11 N X W hS hX hN hT)
 clear hS hX hN hT
 go_enter func7,ntmps7
 go_wp2_with (first|(go_at_call 9;(with_reducible refine KP.out.mono ?_);rintro e w2 ⟨rfl,h2⟩)|fail)
 go_ret
 exact⟨rfl,h2⟩
end
section
open Go.RowKit
theorem Ask_nil(x m:Int)(r:Rs)(w:World):Calls prog 13 #[.pointer none,I x,.agg #[I r.lv,.string r.lb,I r.id],I m] w fun e w'=>e=.returned (.tuple #[I 0,.slice none 0 0,I 1])∧G w w':=by
 have KP:=hide (fun W=>partyOf_nil x W)
 have HG:Hid (G w (w.alloc (.cells #[I r.lv,.string r.lb,I r.id] 27))):=(G.refl w).alloc _
 go_enter func13,ntmps13
 go_wp2_with (first|(go_at_call 35;(with_reducible refine(KP.out _).mono ?_);rintro e w' ⟨rfl,rfl⟩)|fail)
 exact bodyPost_ret (v:=.tuple #[.int .i64 0,.slice none 0 0,.int .i64 1]) (by simp[results,results13,go_sem]) rfl ⟨rfl,HG.out⟩
theorem End_nil(x:Int)(w:World):Calls prog 14 #[.pointer none,I x] w fun e w'=>e=.returned (.tuple #[.slice none 0 0,.slice none 0 0,I 1])∧G w w':=by
 have KP:=hide (fun W=>partyOf_nil x W)
 have HG:Hid (G w w):=G.refl w
 go_enter func14,ntmps14
 go_wp2_with (first|(go_at_call 35;(with_reducible refine(KP.out _).mono ?_);rintro e w' ⟨rfl,rfl⟩)|fail)
 exact bodyPost_ret (v:=.tuple #[.slice none 0 0,.slice none 0 0,.int .i64 1]) (by simp[results,results14,go_sem]) rfl ⟨rfl,HG.out⟩
theorem Mode_nil(x:Int)(r:Rs)(w:World):Calls prog 15 #[.pointer none,I x,.agg #[I r.lv,.string r.lb,I r.id]] w fun e w'=>e=.returned (.tuple #[I 0,I 1])∧G w w':=by
 have KP:=hide (fun W=>partyOf_nil x W)
 have HG:Hid (G w (w.alloc (.cells #[I r.lv,.string r.lb,I r.id] 27))):=(G.refl w).alloc _
 go_enter func15,ntmps15
 go_wp2_with (first|(go_at_call 35;(with_reducible refine(KP.out _).mono ?_);rintro e w' ⟨rfl,rfl⟩)|fail)
 exact bodyPost_ret (v:=.tuple #[.int .i64 0,.int .i64 1]) (by simp[results,results15,go_sem]) rfl ⟨rfl,HG.out⟩
theorem Begin_nil(x st:Int)(w:World):Calls prog 19 #[.pointer none,I x,I st] w fun e w'=>e=.returned (I 1)∧G w w':=by
 go_enter func19,ntmps19
 go_wp2
 go_ret
 exact⟨rfl,G.refl _⟩
theorem Waits_nil(w:World):Calls prog 23 #[.pointer none] w fun e w'=>e=.returned (.slice none 0 0)∧G w w':=by
 have KL:=hide (fun W=>live_nil W)
 go_enter func23,ntmps23
 go_wp2_with (first|(go_at_call 22;(with_reducible refine(KL.out _).mono ?_);rintro e w1 ⟨rfl,hw1⟩;subst w1)|fail)
 go_loopw [3,12] (fun ov iv wr=>ov=.slice none 0 0∧iv=I 0∧G w wr) (fun _ _ _=>0)
 case atStart=>exact⟨rfl,rfl,G.refl _⟩
 case round=>
  obtain⟨rfl,rfl,hg⟩:=hrel
  go_wp2_with fail
  go_ret
  exact⟨rfl,hg⟩
end
section
open Go.RowKit
theorem none_any(kd who x st md:Int)(r:Rs)(w:World):Calls prog 10 #[.agg #[I kd,I who,I x,I st,I r.lv,.string r.lb,I r.id,I md]] w fun e w'=>e=.returned (.bool true)∧G w w':=by
 have K0:=hide (fun W=>Ask_nil x md r W)
 have K1:=hide (fun W=>End_nil x W)
 have K2:=hide (fun W=>Mode_nil x r W)
 have K3:Hid (∀W,Calls prog 16 #[.pointer none,I x] W fun e w'=>e=.returned (.tuple #[.agg #[I 0,.string {data:=#[]},I 0],I 0,I 1])∧G W w'):=fun W=>waiting_nil x W
 have K4:=hide (fun W=>wounders_nil x W)
 have K5:=hide (fun W=>wounded_nil x W)
 have K6:=hide (fun W=>Begin_nil x st W)
 have K7:Hid (∀W,Calls prog 20 #[.pointer none,.agg #[I r.lv,.string r.lb,I r.id]] W fun e w'=>e=.returned (.slice none 0 0)∧G W w'):=fun W=>holders_nil r W
 have K8:Hid (∀W,Calls prog 21 #[.pointer none,.agg #[I r.lv,.string r.lb,I r.id]] W fun e w'=>e=.returned (.slice none 0 0)∧G W w'):=fun W=>queue_nil r W
 have K9:=hide (fun W=>live_nil W)
 have K10:=hide (fun W=>Waits_nil W)
 obtain⟨w1,hw1⟩:∃w1,w1=w.alloc (.cells #[I kd,I who,I x,I st,I r.lv,.string r.lb,I r.id,I md] 29):=⟨_,rfl⟩
 have HB:Hid (Blk w1 w.heap.size 29 [I kd,I who,I x,I st,I r.lv,.string r.lb,I r.id,I md]∧G w w1):=by rw[hw1];exact⟨Blk.new w _ 29,(G.refl w).alloc _⟩
 go_enter func10,ntmps10
 have c0:=(Blk.new w [I kd,I who,I x,I st,I r.lv,.string r.lb,I r.id,I md] 29).cell
 go_wp2_with (first|(go_at_call 13;refine Hid.out ?_)|fail)
 unfold Hid
 rw[←hw1]
 generalize w.heap.size=bx at HB c0⊢
 clear hw1 c0
 refine(K0.out _).mono ?_
 rintro e u0 ⟨rfl,g0⟩
 have H0:Hid (Blk u0 bx 29 [I kd,I who,I x,I st,I r.lv,.string r.lb,I r.id,I md]∧G w u0):=⟨HB.out.1.G g0,HB.out.2.trans g0⟩
 clear K0 g0 HB
 have c1:=H0.out.1.cell
 go_wp2_with (first|(go_at_call 14;refine Hid.out ?_)|fail)
 unfold Hid
 clear c1
 refine(K1.out _).mono ?_
 rintro e u1 ⟨rfl,g1⟩
 have H1:Hid (Blk u1 bx 29 [I kd,I who,I x,I st,I r.lv,.string r.lb,I r.id,I md]∧G w u1):=⟨H0.out.1.G g1,H0.out.2.trans g1⟩
 clear K1 g1 H0
 have c2:=H1.out.1.cell
 go_wp2_with (first|(go_at_call 15;refine Hid.out ?_)|fail)
 unfold Hid
 clear c2
 refine(K2.out _).mono ?_
 rintro e u2 ⟨rfl,g2⟩
 have H2:Hid (Blk u2 bx 29 [I kd,I who,I x,I st,I r.lv,.string r.lb,I r.id,I md]∧G w u2):=⟨H1.out.1.G g2,H1.out.2.trans g2⟩
 clear K2 g2 H1
 have c3:=H2.out.1.cell
 go_wp2_with (first|(go_at_call 16;refine Hid.out ?_)|fail)
 unfold Hid
 clear c3
 refine(K3.out _).mono ?_
 rintro e u3 ⟨rfl,g3⟩
 have H3:Hid (Blk u3 bx 29 [I kd,I who,I x,I st,I r.lv,.string r.lb,I r.id,I md]∧G w u3):=⟨H2.out.1.G g3,H2.out.2.trans g3⟩
 clear K3 g3 H2
 have g3:G u3 (u3.alloc (.cells #[I 0,.string {data:=#[]},I 0] 27)):=(G.refl u3).alloc _
 have c4:=H3.out.1.cell
 have c5:=(H3.out.1.G g3).cell
 have HX:Hid (Blk (u3.alloc (.cells #[I 0,.string {data:=#[]},I 0] 27)) u3.heap.size 27 [I 0,.string {data:=#[]},I 0]):=Blk.new u3 _ 27
 have HU:Hid (Blk (u3.alloc (.cells #[I 0,.string {data:=#[]},I 0] 27)) bx 29 [I kd,I who,I x,I st,I r.lv,.string r.lb,I r.id,I md]∧G w (u3.alloc (.cells #[I 0,.string {data:=#[]},I 0] 27))):=⟨H3.out.1.G g3,H3.out.2.trans g3⟩
 clear g3
 go_wp2_with (first|(go_at_call 17;refine Hid.out ?_)|fail)
 unfold Hid
 clear c4 c5 H3
 generalize (u3.alloc (.cells #[I 0,.string {data:=#[]},I 0] 27))=U at HX HU⊢
 generalize u3.heap.size=bz at HX⊢
 refine(K4.out _).mono ?_
 rintro e u4 ⟨rfl,g4⟩
 have H4:Hid (Blk u4 bx 29 [I kd,I who,I x,I st,I r.lv,.string r.lb,I r.id,I md]∧G w u4∧Blk u4 bz 27 [I 0,.string {data:=#[]},I 0]):=⟨HU.out.1.G g4,HU.out.2.trans g4,HX.out.G g4⟩
 clear K4 g4 HX HU
 have c5:=H4.out.1.cell
 go_wp2_with (first|(go_at_call 18;refine Hid.out ?_)|fail)
 unfold Hid
 clear c5
 refine(K5.out _).mono ?_
 rintro e u5 ⟨rfl,g5⟩
 have H5:Hid (Blk u5 bx 29 [I kd,I who,I x,I st,I r.lv,.string r.lb,I r.id,I md]∧G w u5∧Blk u5 bz 27 [I 0,.string {data:=#[]},I 0]):=⟨H4.out.1.G g5,H4.out.2.1.trans g5,H4.out.2.2.G g5⟩
 clear K5 g5 H4
 have c6:=H5.out.1.cell
 go_wp2_with (first|(go_at_call 19;refine Hid.out ?_)|fail)
 unfold Hid
 clear c6
 refine(K6.out _).mono ?_
 rintro e u6 ⟨rfl,g6⟩
 have H6:Hid (Blk u6 bx 29 [I kd,I who,I x,I st,I r.lv,.string r.lb,I r.id,I md]∧G w u6∧Blk u6 bz 27 [I 0,.string {data:=#[]},I 0]):=⟨H5.out.1.G g6,H5.out.2.1.trans g6,H5.out.2.2.G g6⟩
 clear K6 g6 H5
 have c7:=H6.out.1.cell
 have c8:=H6.out.2.2.cell
 go_wp2_with fail
 clear c7 c8
 refine wp_region_noPanic ?_
 refine wp_region_held_drew (S:=(fun U=>∀o,U.cell? ⟨bx,o,none⟩=([I kd,I who,I x,I st,I r.lv,.string r.lb,I r.id,I md]:List Value)[o]?)) (by kernel_rfl) ((H6.out.1.drew).cell) (fun hHeld=>?_)
 refine wpAnyH_take (i:=0) (v:=?_) rfl (by kernel_rfl) (by kernel_rfl) (by kernel_rfl) (fun _ _ _ h=>h) (Or.inl ⟨by rfl,?_⟩) hHeld ?_
 rotate_left 1
 ·(intro w hSw;have c0:=hSw;go_simp;try with_reducible rfl)
 try simp only[Act.put,List.getElem_toArray,List.getElem_cons_zero,List.setIfInBounds_toArray,List.set_cons_zero,List.set_cons_succ]
 refine wpAnyH_take (i:=1) (v:=?_) rfl (by kernel_rfl) (by kernel_rfl) (by kernel_rfl) (fun _ _ _ h=>h) (Or.inl ⟨by rfl,?_⟩) hHeld ?_
 rotate_left 1
 ·(intro w hSw;have c0:=hSw;go_simp;try with_reducible rfl)
 try simp only[Act.put,List.getElem_toArray,List.getElem_cons_zero,List.getElem_cons_succ,List.setIfInBounds_toArray,List.set_cons_zero,List.set_cons_succ]
 refine wpAnyH_take (i:=2) (v:=?_) rfl (by kernel_rfl) (by kernel_rfl) (by kernel_rfl) (fun _ _ _ h=>h) (Or.inl ⟨by rfl,?_⟩) hHeld ?_
 rotate_left 1
 ·(intro w hSw;have c0:=hSw;go_simp;try with_reducible rfl)
 try simp only[Act.put,List.getElem_toArray,List.getElem_cons_zero,List.getElem_cons_succ,List.setIfInBounds_toArray,List.set_cons_zero,List.set_cons_succ]
 refine wpAnyH_take (i:=5) (v:=?_) rfl (by kernel_rfl) (by kernel_rfl) (by kernel_rfl) (fun _ _ _ h=>h) (Or.inl ⟨by rfl,?_⟩) hHeld ?_
 rotate_left 1
 ·(intro w hSw;have c0:=hSw;go_simp;try with_reducible rfl)
 try simp only[Act.put,List.getElem_toArray,List.getElem_cons_zero,List.getElem_cons_succ,List.setIfInBounds_toArray,List.set_cons_zero,List.set_cons_succ]
 refine wpAnyH_take (i:=6) (v:=?_) rfl (by kernel_rfl) (by kernel_rfl) (by kernel_rfl) (fun _ _ _ h=>h) (Or.inl ⟨by rfl,?_⟩) hHeld ?_
 rotate_left 1
 ·(intro w hSw;have c0:=hSw;go_simp;try with_reducible rfl)
 try simp only[Act.put,List.getElem_toArray,List.getElem_cons_zero,List.getElem_cons_succ,List.setIfInBounds_toArray,List.set_cons_zero,List.set_cons_succ]
 refine wpAnyH_take (i:=7) (v:=?_) rfl (by kernel_rfl) (by kernel_rfl) (by kernel_rfl) (fun _ _ _ h=>h) (Or.inl ⟨by rfl,?_⟩) hHeld ?_
 rotate_left 1
 ·(intro w hSw;have c0:=hSw;go_simp;try with_reducible rfl)
 try simp only[Act.put,List.getElem_toArray,List.getElem_cons_zero,List.getElem_cons_succ,List.setIfInBounds_toArray,List.set_cons_zero,List.set_cons_succ]
 refine wpAnyH_take (i:=11) (v:=?_) rfl (by kernel_rfl) (by kernel_rfl) (by kernel_rfl) (fun _ _ _ h=>h) (Or.inl ⟨by rfl,?_⟩) hHeld ?_
 rotate_left 1
 ·(intro w hSw;(try dsimp only at hSw);go_simp;try with_reducible rfl)
 try simp only[Act.put,List.getElem_toArray,List.getElem_cons_zero,List.getElem_cons_succ,List.setIfInBounds_toArray,List.set_cons_zero,List.set_cons_succ]
 refine wpAnyH_take (i:=15) (v:=?_) rfl (by kernel_rfl) (by kernel_rfl) (by kernel_rfl) (fun _ _ _ h=>h) (Or.inl ⟨by rfl,?_⟩) hHeld ?_
 rotate_left 1
 ·(intro w hSw;(try dsimp only at hSw);go_simp;try with_reducible rfl)
 try simp only[Act.put,List.getElem_toArray,List.getElem_cons_zero,List.getElem_cons_succ,List.setIfInBounds_toArray,List.set_cons_zero,List.set_cons_succ]
 refine wpAnyH_ready (rs:=[3]) (by kernel_rfl) (by simp) (AllReadyH.cons rfl (fun K hK=>?_) AllReadyH.nil)
 clear hHeld
 go_simp
 (with_reducible refine(K7.out _).mono ?_)
 rintro e u7 ⟨rfl,g7⟩
 skip
 have H7:Hid (Blk u7 bx 29 [I kd,I who,I x,I st,I r.lv,.string r.lb,I r.id,I md]∧G w u7):=⟨H6.out.1.G ((G.refl u6).drew.trans g7),H6.out.2.1.trans ((G.refl u6).drew.trans g7)⟩
 clear g7 H6 K7
 refine hK.out _ _ (H7.out.1.cell) (fun hHeld=>?_)
 clear hK K
 try simp only[Act.put,List.getElem_toArray,List.getElem_cons_zero,List.getElem_cons_succ,List.setIfInBounds_toArray,List.set_cons_zero,List.set_cons_succ]
 refine wpAnyH_take (i:=4) (v:=?_) rfl (by kernel_rfl) (by kernel_rfl) (by kernel_rfl) (fun _ _ _ h=>h) (Or.inl ⟨by rfl,?_⟩) hHeld ?_
 rotate_left 1
 ·(intro w hSw;(try dsimp only at hSw);go_simp;try with_reducible rfl)
 try simp only[Act.put,List.getElem_toArray,List.getElem_cons_zero,List.getElem_cons_succ,List.setIfInBounds_toArray,List.set_cons_zero,List.set_cons_succ]
 refine wpAnyH_ready (rs:=[8]) (by kernel_rfl) (by simp) (AllReadyH.cons rfl (fun K hK=>?_) AllReadyH.nil)
 clear hHeld
 go_simp
 (with_reducible refine(K8.out _).mono ?_)
 rintro e u8 ⟨rfl,g8⟩
 skip
 have H8:Hid (Blk u8 bx 29 [I kd,I who,I x,I st,I r.lv,.string r.lb,I r.id,I md]∧G w u8):=⟨H7.out.1.G g8,H7.out.2.trans g8⟩
 clear g8 H7 K8
 refine hK.out _ _ (H8.out.1.cell) (fun hHeld=>?_)
 clear hK K
 try simp only[Act.put,List.getElem_toArray,List.getElem_cons_zero,List.getElem_cons_succ,List.setIfInBounds_toArray,List.set_cons_zero,List.set_cons_succ]
 refine wpAnyH_take (i:=9) (v:=?_) rfl (by kernel_rfl) (by kernel_rfl) (by kernel_rfl) (fun _ _ _ h=>h) (Or.inl ⟨by rfl,?_⟩) hHeld ?_
 rotate_left 1
 ·(intro w hSw;(try dsimp only at hSw);go_simp;try with_reducible rfl)
 try simp only[Act.put,List.getElem_toArray,List.getElem_cons_zero,List.getElem_cons_succ,List.setIfInBounds_toArray,List.set_cons_zero,List.set_cons_succ]
 refine wpAnyH_take (i:=10) (v:=?_) rfl (by kernel_rfl) (by kernel_rfl) (by kernel_rfl) (fun _ _ _ h=>h) (Or.inl ⟨by rfl,?_⟩) hHeld ?_
 rotate_left 1
 ·(intro w hSw;(try dsimp only at hSw);go_simp;try with_reducible rfl)
 try simp only[Act.put,List.getElem_toArray,List.getElem_cons_zero,List.getElem_cons_succ,List.setIfInBounds_toArray,List.set_cons_zero,List.set_cons_succ]
 refine wpAnyH_ready (rs:=[12]) (by kernel_rfl) (by simp) (AllReadyH.cons rfl (fun K hK=>?_) AllReadyH.nil)
 clear hHeld
 go_simp
 (with_reducible refine(K9.out _).mono ?_)
 rintro e u9 ⟨rfl,hw9⟩
 have g9:G u8 u9:=by rw[hw9];exact G.refl _
 have H9:Hid (Blk u9 bx 29 [I kd,I who,I x,I st,I r.lv,.string r.lb,I r.id,I md]∧G w u9):=⟨H8.out.1.G g9,H8.out.2.trans g9⟩
 clear hw9 g9 H8 K9
 refine hK.out _ _ (H9.out.1.cell) (fun hHeld=>?_)
 clear hK K
 try simp only[Act.put,List.getElem_toArray,List.getElem_cons_zero,List.getElem_cons_succ,List.setIfInBounds_toArray,List.set_cons_zero,List.set_cons_succ]
 refine wpAnyH_take (i:=13) (v:=?_) rfl (by kernel_rfl) (by kernel_rfl) (by kernel_rfl) (fun _ _ _ h=>h) (Or.inl ⟨by rfl,?_⟩) hHeld ?_
 rotate_left 1
 ·(intro w hSw;(try dsimp only at hSw);go_simp;try with_reducible rfl)
 try simp only[Act.put,List.getElem_toArray,List.getElem_cons_zero,List.getElem_cons_succ,List.setIfInBounds_toArray,List.set_cons_zero,List.set_cons_succ]
 refine wpAnyH_take (i:=14) (v:=?_) rfl (by kernel_rfl) (by kernel_rfl) (by kernel_rfl) (fun _ _ _ h=>h) (Or.inl ⟨by rfl,?_⟩) hHeld ?_
 rotate_left 1
 ·(intro w hSw;(try dsimp only at hSw);go_simp;try with_reducible rfl)
 try simp only[Act.put,List.getElem_toArray,List.getElem_cons_zero,List.getElem_cons_succ,List.setIfInBounds_toArray,List.set_cons_zero,List.set_cons_succ]
 refine wpAnyH_ready (rs:=[16]) (by kernel_rfl) (by simp) (AllReadyH.cons rfl (fun K hK=>?_) AllReadyH.nil)
 clear hHeld
 go_simp
 (with_reducible refine(K10.out _).mono ?_)
 rintro e u10 ⟨rfl,g10⟩
 skip
 have H10:Hid (Blk u10 bx 29 [I kd,I who,I x,I st,I r.lv,.string r.lb,I r.id,I md]∧G w u10):=⟨H9.out.1.G g10,H9.out.2.trans g10⟩
 clear g10 H9 K10
 refine hK.out _ _ (H10.out.1.cell) (fun hHeld=>?_)
 clear hK K
 try simp only[Act.put,List.getElem_toArray,List.getElem_cons_zero,List.getElem_cons_succ,List.setIfInBounds_toArray,List.set_cons_zero,List.set_cons_succ]
 refine wpAnyH_take (i:=17) (v:=?_) rfl (by kernel_rfl) (by kernel_rfl) (by kernel_rfl) (fun _ _ _ h=>h) (Or.inl ⟨by rfl,?_⟩) hHeld ?_
 rotate_left 1
 ·(intro w hSw;(try dsimp only at hSw);go_simp;try with_reducible rfl)
 try simp only[Act.put,List.getElem_toArray,List.getElem_cons_zero,List.getElem_cons_succ,List.setIfInBounds_toArray,List.set_cons_zero,List.set_cons_succ]
 refine wpAnyH_take (i:=18) (v:=?_) rfl (by kernel_rfl) (by kernel_rfl) (by kernel_rfl) (fun _ _ _ h=>h) (Or.inl ⟨by rfl,?_⟩) hHeld ?_
 rotate_left 1
 ·(intro w hSw;(try dsimp only at hSw);go_simp;try with_reducible rfl)
 try simp only[Act.put,List.getElem_toArray,List.getElem_cons_zero,List.getElem_cons_succ,List.setIfInBounds_toArray,List.set_cons_zero,List.set_cons_succ]
 refine wpAnyH_take (i:=19) (v:=?_) rfl (by kernel_rfl) (by kernel_rfl) (by kernel_rfl) (fun _ _ _ h=>h) (Or.inl ⟨by rfl,?_⟩) hHeld ?_
 rotate_left 1
 ·(intro w hSw;(try dsimp only at hSw);go_simp;try with_reducible rfl)
 try simp only[Act.put,List.getElem_toArray,List.getElem_cons_zero,List.getElem_cons_succ,List.setIfInBounds_toArray,List.set_cons_zero,List.set_cons_succ]
 refine wpAnyH_take (i:=20) (v:=?_) rfl (by kernel_rfl) (by kernel_rfl) (by kernel_rfl) (fun _ _ _ h=>h) (Or.inl ⟨by rfl,?_⟩) hHeld ?_
 rotate_left 1
 ·(intro w hSw;(try dsimp only at hSw);go_simp;try with_reducible rfl)
 try simp only[Act.put,List.getElem_toArray,List.getElem_cons_zero,List.getElem_cons_succ,List.setIfInBounds_toArray,List.set_cons_zero,List.set_cons_succ]
 refine wpAnyH_done (by kernel_rfl) ?_ _
 refine NoPanic.normal ?_
 go_wp2_with fail
 go_ret
 exact⟨rfl,H10.out.2⟩
theorem law_LocksAll(v:Value)(N:Nat)(X:Nat→Lo)(W:World)(hS:ScL W v N X)(hX:∀i,i<N→R64 (X i).x∧(X i).r.ok)(hN:N≤1048576)(hT:Tb W) :
  Calls prog 8 #[v] W fun e W'=>e=.returned (.bool true)∧G W W':=by
 have HP:Hid (∀W',G W W'→Calls prog 9 #[v,I 1,I 11] W' fun e w'=>e=.returned (.bool true)∧G W' w'):=fun W' g=>play_law v 1 11 N X W' (by
  obtain⟨a,cap,h1,h2⟩:=hS
  exact⟨a,cap,h1,h2.imp id (fun ⟨b,off,h3,h4⟩=>⟨b,off,h3,h4.G g⟩)⟩) hX hN (hT.G g)
 obtain⟨a,cap,rfl,hS⟩:=hS
 have HS:=hide hS;have HN:=hide hN
 clear hS hX hN hT
 go_enter func8,ntmps8
 go_wp2_with fail
 go_loopw [3] (fun iv wr=>∃i:Nat,i≤N∧iv=I (i:Int)∧G W wr) (fun iv _=>N-(RowKit.intOf iv).toNat)
 case atStart=>exact⟨0,Nat.zero_le _,rfl,G.refl _⟩
 case round=>
  obtain⟨i,hi,rfl,hg⟩:=hrel
  have hnN:=HN.out
  have HGW:=hide hg
  by_cases hlt:i<N
  ·rcases HS.out with h0|⟨sb,off,rfl,hops⟩
   ·omega
   obtain⟨x1,x2,x3,x4,x5,x6,x7,x8⟩:=(hops.G hg).at hlt
   generalize X i=oo at x1 x2 x3 x4 x5 x6 x7 x8
   obtain⟨okd,owho,ox,ost,orr,omd⟩:=oo
   dsimp only at x1 x2 x3 x4 x5 x6 x7 x8
   have i1:(i:Int)<(N:Int):=by omega
   have hwn:wrap64 ((i:Int)+1)=(i:Int)+1:=by unfold wrap64;omega
   have HWN:=hide hwn
   have KS:=hide (none_any okd owho ox ost omd orr wr)
   have HLT:=hide hlt
   clear hi hg hnN hlt hops hwn HP
   go_wp2_with (first|(go_at_call 10;refine Hid.out ?_)|fail)
   unfold Hid
   refine KS.out.mono ?_
   rintro e w4 ⟨rfl,h4⟩
   have H4:=hide h4
   clear h4 KS x1 x2 x3 x4 x5 x6 x7 x8
   go_wp2_with fail
   exact⟨⟨i+1,HLT.out,by rw[HWN.out];exact rl1 i,HGW.out.trans H4.out⟩,by rw[HWN.out];exact ms_end HLT.out⟩
  ·have hne:i=N:=by omega
   subst hne
   have i1:¬((i:Int)<(i:Int)):=by omega
   have KP:=hide (HP.out wr hg)
   clear hi hlt hg hnN HP
   go_wp2_with (first|(go_at_call 9;(with_reducible refine KP.out.mono ?_);rintro e w4 ⟨rfl,h4⟩)|fail)
   go_ret
   exact⟨rfl,HGW.out.trans h4⟩
end
end Go.Proofs.YtoefbpldmlebdaaGreatDoor
