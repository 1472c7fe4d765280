import Derived.Test.YtadfaiciolfgjaaGreatDoorLp8
import Derived.Test.YtadfaiciolfgjaaGreatDoorLo6
namespace Go.Proofs.YtadfaiciolfgjaaGreatDoor
open Go.Proofs.Tryz
set_option maxHeartbeats 6000000
set_option maxRecDepth 100000
section
open Go.RowKit
theorem refnew(w:World):Calls prog 16 #[] w fun e w'=>∃b,e=.returned (ptr b)∧RT w' b ⟨[],[],[]⟩ (fun k=>k=b)∧G w w'∧w.heap.size≤b:=by
 go_enter func16,ntmps16
 go_wp2
 go_ret
 refine⟨w.heap.size,rfl,⟨.slice none 0 0,.slice none 0 0,.slice none 0 0,[],rfl,Blk.new w [.slice none 0 0,.slice none 0 0,.slice none 0 0] _,⟨rfl,.inl ⟨rfl,rfl⟩⟩,⟨rfl,.inl ⟨rfl,rfl⟩⟩,⟨rfl,.inl ⟨rfl,rfl⟩⟩,fun e he=>(by cases he),rfl,fun k hk=>(by cases hk),fun k hk=>(by cases hk),fun k hk=>(by cases hk),fun e he=>(by cases he),fun k hk=>(by cases hk),fun k hk=>?_⟩,(G.refl w).alloc _,Nat.le_refl _⟩
 simp only[World.size_alloc]
 omega
theorem rm_m0:RM ⟨[],[],[]⟩ m0:=⟨⟨List.nodup_nil,fun _ _ h=>(by cases h),fun _ h=>(by cases h)⟩,⟨List.nodup_nil,fun _ h=>(by cases h),fun _ _ h=>absurd rfl h,fun _=>rfl,fun _ h=>(by cases h)⟩⟩
structure BG(W0 w:World)(tw n:Nat)(L:List Int)(LR:List Rs)(vs:List Value)(t b:Nat→Nat)(s:Nat→Gs)(D:Nat→Nat→Prop):Prop where
 blk:Blk w tw 41 vs
 pq:∀j,j<n→PQ w (t j) (b j) m0 L LR (s j) ⟨[],[],[]⟩ (D j) 0
 ap:∀j i k,j<n→i<n→j≠i→PB (s j) (D j) k→¬PB (s i) (D i) k
 tn:∀j,j<n→¬PB (s j) (D j) tw
 nw:∀j,j<n→∀k,PB (s j) (D j) k→W0.heap.size≤k
 tl:W0.heap.size≤tw
 gg:G W0 w
section
variable {W0 w w1 w2 w3 w4:World} {tw n t' b':Nat} {L:List Int} {LR:List Rs} {vs vs':List Value} {t b:Nat→Nat} {s:Nat→Gs} {D:Nat→Nat→Prop} {s':Gs}
theorem BG.G(h:BG W0 w tw n L LR vs t b s D)(g:Go.Proofs.YtadfaiciolfgjaaGreatDoor.G w w1):BG W0 w1 tw n L LR vs t b s D:=⟨h.blk.G g,fun j hj=>(h.pq j hj).G g,h.ap,h.tn,h.nw,h.tl,h.gg.trans g⟩
theorem BG.more(h:BG W0 w tw n L LR vs t b s D)(hTb:Tb W0)(hT:TT w1 t' s')(hl:∀x,s'.lv x=none)(hp:∀r,s'.pl r=none)(g1:Go.Proofs.YtadfaiciolfgjaaGreatDoor.G w w1)(ho:∀k tg,s'.own k=some tg→w.heap.size≤k)(c2:Chg (fun k=>k=tw) w1 w2)(hR:RT w3 b' ⟨[],[],[]⟩ (fun k=>k=b'))(g3:Go.Proofs.YtadfaiciolfgjaaGreatDoor.G w2 w3)(hb:w2.heap.size≤b')(c4:Chg (fun k=>k=tw) w3 w4)(hB:Blk w4 tw 41 vs') :
  BG W0 w4 tw (n+1) L LR vs' (fun i=>if i=n then t' else t i) (fun i=>if i=n then b' else b i) (fun i=>if i=n then s' else s i) (fun i=>if i=n then(fun k=>k=b')else D i):=by
 have htw:=h.blk.lt
 have z0:=h.gg.size
 have z1:=g1.size
 have z2:=c2.size
 have z3:=g3.size
 have htl:=h.tl
 have hlf:=hTb.lf
 have hlj:=hTb.lj
 have hgl:¬1=tw∧¬0=tw:=⟨by omega,by omega⟩
 have own0:∀k,k<w.heap.size→s'.own k=none:=fun k hk=>by
  cases e:s'.own k with
  | none=>rfl
  | some tg=>have:=ho k tg e;omega
 have hGG:Go.Proofs.YtadfaiciolfgjaaGreatDoor.G W0 w4:=(((h.gg.trans g1).of_chg c2 (fun k hk=>by omega)).trans g3).of_chg c4 (fun k hk=>by omega)
 have hPB:∀k,PB s' (fun k=>k=b') k→w.heap.size≤k:=fun k hk=>by
  rcases hk with hk|hk
  ·exact Nat.le_of_not_lt fun h5=>hk (own0 k h5)
  ·omega
 have hTw:∀k,k=tw→s'.own k=none:=fun k hk=>own0 k (by omega)
 refine⟨hB,fun j hj=>?_,fun i1 i2 k h1 h2 hne=>?_,fun j hj=>?_,fun j hj k=>?_,h.tl,hGG⟩
 ·by_cases e:j=n
  ·subst e
   simp only[if_pos]
   refine⟨⟨((hT.chg c2 hTw).G g3).chg c4 hTw,hTb.G hGG,⟨own0 _ (by omega),own0 _ (by omega)⟩,⟨fun x=>(by rw[hl x];rfl),fun r q e=>(by rw[hp r] at e;cases e),fun r _=>⟨fun _=>rfl,rfl⟩⟩,iv_m0 L LR⟩,hR.chg c4 (fun k hk hh=>by omega),rm_m0,fun k hk=>?_,⟨fun hh=>by omega,fun hh=>by omega⟩,Nat.le_refl _,Nat.le_refl _⟩
   cases e:s'.own k with
   | none=>rfl
   | some tg=>have:=hT.lt k tg e;omega
  ·simp only[if_neg e]
   have hj':j<n:=by omega
   have hF:∀i,PB (s j) (D j) i→¬i=tw:=fun i hi e=>h.tn j hj' (e▸hi)
   exact((((h.pq j hj').G g1).far c2 hF hgl).G g3).far c4 hF hgl
 ·by_cases e1:i1=n
  ·have e2:¬i2=n:=fun e=>hne (e1.trans e.symm)
   simp only[if_pos e1,if_neg e2]
   intro hk hh
   have h5:=hPB k hk
   have h6:=(h.pq i2 (by omega)).dl hh
   omega
  ·simp only[if_neg e1]
   by_cases e2:i2=n
   ·simp only[if_pos e2]
    intro hh hk
    have h5:=hPB k hk
    have h6:=(h.pq i1 (by omega)).dl hh
    omega
   ·simp only[if_neg e2]
    exact h.ap i1 i2 k (by omega) (by omega) hne
 ·by_cases e:j=n
  ·simp only[if_pos e]
   intro hk
   have:=hPB _ hk
   omega
  ·simp only[if_neg e];exact h.tn j (by omega)
 ·by_cases e:j=n
  ·simp only[if_pos e]
   intro hk
   have:=hPB _ hk
   omega
  ·simp only[if_neg e];exact h.nw j (by omega) k
end
def VS(n:Nat)(t b:Nat→Nat):List Value:=match n with
 | 0=>[.pointer none,.pointer none,.pointer none,.pointer none]
 | 1=>[ptr (t 0),.pointer none,ptr (b 0),.pointer none]
 | _=>[ptr (t 0),ptr (t 1),ptr (b 0),ptr (b 1)]
theorem begin_tw(L:List Int)(LR:List Rs)(W:World)(hT:Tb W):Calls prog 4 #[] W fun e w'=>∃tw,e=.returned (.tuple #[ptr tw,.bool true])∧TW W w' tw L LR 0:=by
 have HTB:=hide hT
 clear hT
 go_enter func4,ntmps4
 go_wp2_with fail
 obtain⟨w2,hw2⟩:∃w2,w2=W.alloc (.cells #[.pointer none,.pointer none,.pointer none,.pointer none] 41):=⟨_,rfl⟩
 rw[←hw2]
 have HB0:Hid (BG W w2 W.heap.size 0 L LR (VS 0 (fun _=>0) (fun _=>0)) (fun _=>0) (fun _=>0) (fun _=>⟨0,0,fun _=>none,fun _=>none,fun _=>none⟩) (fun _ _=>False)):=by
  rw[hw2]
  exact⟨Blk.new W [.pointer none,.pointer none,.pointer none,.pointer none] 41,fun j hj=>absurd hj (Nat.not_lt_zero _),fun j _ _ hj=>absurd hj (Nat.not_lt_zero _),fun j hj=>absurd hj (Nat.not_lt_zero _),fun j hj=>absurd hj (Nat.not_lt_zero _),Nat.le_refl _,(G.refl W).alloc _⟩
 clear hw2
 generalize W.heap.size=tw at HB0⊢
 go_loopw [3] (fun iv wr=>∃(n:Nat) (t b:Nat→Nat) (s:Nat→Gs) (D:Nat→Nat→Prop),n≤2∧iv=I (n:Int)∧BG W wr tw n L LR (VS n t b) t b s D) (fun iv _=>2-(RowKit.intOf iv).toNat)
 case atStart=>exact⟨0,_,_,_,_,Nat.zero_le _,rfl,HB0.out⟩
 case round=>
  clear HB0
  obtain⟨n,t,b,s,D,hn,rfl,hB⟩:=hrel
  rcases(show n=0∨n=1∨n=2 by omega)with rfl|rfl|rfl
  ·clear hn
   have HBG:Hid (BG W wr tw 0 L LR [.pointer none,.pointer none,.pointer none,.pointer none] t b s D):=hB
   clear hB
   go_wp2_with fail
   refine wp_region_noPanic ?_
   refine wp_region_held_drew (S:=(fun _=>True)) (by kernel_rfl) (trivial) (fun hHeld=>?_)
   refine wpAnyH_take (i:=0) (v:=?_) rfl (by kernel_rfl) (by kernel_rfl) (by kernel_rfl) (fun _ _ _ h=>h) (Or.inl ⟨by rfl,?_⟩) hHeld ?_
   rotate_left 1
   ·(intro w hSw;(try dsimp only at hSw);go_simp;try with_reducible rfl)
   try simp only[Act.put,zzA,zzB,zzD,zzE,zzF]
   refine wpAnyH_take (i:=1) (v:=?_) rfl (by kernel_rfl) (by kernel_rfl) (by kernel_rfl) (fun _ _ _ h=>h) (Or.inl ⟨by rfl,?_⟩) hHeld ?_
   rotate_left 1
   ·(intro w hSw;(try dsimp only at hSw);go_simp;try with_reducible rfl)
   try simp only[Act.put,zzA,zzB,zzC,zzD,zzE,zzF]
   refine wpAnyH_take (i:=3) (v:=?_) rfl (by kernel_rfl) (by kernel_rfl) (by kernel_rfl) (fun _ _ _ h=>h) (Or.inl ⟨by rfl,?_⟩) hHeld ?_
   rotate_left 1
   ·(intro w hSw;(try dsimp only at hSw);go_simp;try with_reducible rfl)
   try simp only[Act.put,zzA,zzB,zzC,zzD,zzE,zzF]
   refine wpAnyH_take (i:=4) (v:=?_) rfl (by kernel_rfl) (by kernel_rfl) (by kernel_rfl) (fun _ _ _ h=>h) (Or.inl ⟨by rfl,?_⟩) hHeld ?_
   rotate_left 1
   ·(intro w hSw;(try dsimp only at hSw);go_simp;try with_reducible rfl)
   try simp only[Act.put,zzA,zzB,zzC,zzD,zzE,zzF]
   refine wpAnyH_ready (rs:=[2]) (by kernel_rfl) (by simp) (AllReadyH.cons rfl (fun K hK=>?_) AllReadyH.nil)
   clear hHeld
   go_simp
   (with_reducible refine(new_any _).mono ?_)
   rintro e w3 ⟨t',s',rfl,hT',hl',hp',g',ht',ho'⟩
   have HN1:Hid (TT w3 t' s'∧(∀x,s'.lv x=none)∧(∀r,s'.pl r=none)∧G wr.drew w3∧(∀k tg,s'.own k=some tg→wr.drew.heap.size≤k)):=⟨hT',hl',hp',g',ho'⟩
   have HB3:Hid (Blk w3 tw 41 [.pointer none,.pointer none,.pointer none,.pointer none]):=(HBG.out.blk.G ((G.refl wr).drew.trans g'))
   clear hT' hl' hp' g' ho' ht'
   refine hK.out _ _ (trivial) (fun hHeld=>?_)
   clear hK K
   try simp only[Act.put,zzA,zzB,zzC,zzD,zzE,zzF]
   refine wpAnyH_take (i:=5) (v:=?_) rfl (by kernel_rfl) (by kernel_rfl) (by kernel_rfl) (fun _ _ _ h=>h) (Or.inl ⟨by rfl,?_⟩) hHeld ?_
   rotate_left 1
   ·(intro w hSw;(try dsimp only at hSw);go_simp;try with_reducible rfl)
   try simp only[Act.put,zzA,zzB,zzC,zzD,zzE,zzF]
   refine wpAnyH_ready (rs:=[6]) (by kernel_rfl) (by simp) (AllReadyH.cons rfl (fun K hK=>?_) AllReadyH.nil)
   have hc:=HB3.out.cell
   have hf:=HB3.out.frozen
   clear hHeld
   go_simp
   refine hK.out _ _ (trivial) (fun hHeld=>?_)
   clear hK K
   try simp only[Act.put,zzA,zzB,zzC]
   refine wpAnyH_done (by kernel_rfl) ?_ _
   refine NoPanic.normal ?_
   obtain⟨w4,hw4⟩:∃w4,w4=w3.setCell ⟨tw,0,none⟩ (ptr t'):=⟨_,rfl⟩
   rw[←hw4]
   have HB4:Hid (Blk w4 tw 41 [ptr t',.pointer none,.pointer none,.pointer none]):=by rw[hw4];exact HB3.out.set 0 (ptr t')
   have HC4:Hid (Chg (fun k=>k=tw) w3 w4):=by rw[hw4];exact chg_setCell w3 _ (.inl rfl)
   clear hw4 HB3
   try go_wp2_with fail
   refine wp_region_noPanic ?_
   refine wp_region_held_drew (S:=(fun _=>True)) (by kernel_rfl) (trivial) (fun hHeld=>?_)
   refine wpAnyH_take (i:=0) (v:=?_) rfl (by kernel_rfl) (by kernel_rfl) (by kernel_rfl) (fun _ _ _ h=>h) (Or.inl ⟨by rfl,?_⟩) hHeld ?_
   rotate_left 1
   ·(intro w hSw;(try dsimp only at hSw);go_simp;try with_reducible rfl)
   try simp only[Act.put,zzA,zzB,zzD,zzE,zzF]
   refine wpAnyH_take (i:=1) (v:=?_) rfl (by kernel_rfl) (by kernel_rfl) (by kernel_rfl) (fun _ _ _ h=>h) (Or.inl ⟨by rfl,?_⟩) hHeld ?_
   rotate_left 1
   ·(intro w hSw;(try dsimp only at hSw);go_simp;try with_reducible rfl)
   try simp only[Act.put,zzA,zzB,zzC,zzD,zzE,zzF]
   refine wpAnyH_take (i:=3) (v:=?_) rfl (by kernel_rfl) (by kernel_rfl) (by kernel_rfl) (fun _ _ _ h=>h) (Or.inl ⟨by rfl,?_⟩) hHeld ?_
   rotate_left 1
   ·(intro w hSw;(try dsimp only at hSw);go_simp;try with_reducible rfl)
   try simp only[Act.put,zzA,zzB,zzC,zzD,zzE,zzF]
   refine wpAnyH_take (i:=4) (v:=?_) rfl (by kernel_rfl) (by kernel_rfl) (by kernel_rfl) (fun _ _ _ h=>h) (Or.inl ⟨by rfl,?_⟩) hHeld ?_
   rotate_left 1
   ·(intro w hSw;(try dsimp only at hSw);go_simp;try with_reducible rfl)
   try simp only[Act.put,zzA,zzB,zzC,zzD,zzE,zzF]
   refine wpAnyH_ready (rs:=[2]) (by kernel_rfl) (by simp) (AllReadyH.cons rfl (fun K hK=>?_) AllReadyH.nil)
   clear hHeld
   go_simp
   (with_reducible refine(refnew _).mono ?_)
   rintro e w5 ⟨b',rfl,hR',g',hb'⟩
   have HN2:Hid (RT w5 b' ⟨[],[],[]⟩ (fun k=>k=b')∧G w4.drew w5∧w4.drew.heap.size≤b'):=⟨hR',g',hb'⟩
   have HB5:Hid (Blk w5 tw 41 [ptr t',.pointer none,.pointer none,.pointer none]):=(HB4.out.G ((G.refl w4).drew.trans g'))
   clear hR' g' hb'
   refine hK.out _ _ (trivial) (fun hHeld=>?_)
   clear hK K
   try simp only[Act.put,zzA,zzB,zzC,zzD,zzE,zzF]
   refine wpAnyH_take (i:=5) (v:=?_) rfl (by kernel_rfl) (by kernel_rfl) (by kernel_rfl) (fun _ _ _ h=>h) (Or.inl ⟨by rfl,?_⟩) hHeld ?_
   rotate_left 1
   ·(intro w hSw;(try dsimp only at hSw);go_simp;try with_reducible rfl)
   try simp only[Act.put,zzA,zzB,zzC,zzD,zzE,zzF]
   refine wpAnyH_ready (rs:=[6]) (by kernel_rfl) (by simp) (AllReadyH.cons rfl (fun K hK=>?_) AllReadyH.nil)
   have hc:=HB5.out.cell
   have hf:=HB5.out.frozen
   clear hHeld
   go_simp
   refine hK.out _ _ (trivial) (fun hHeld=>?_)
   clear hK K
   try simp only[Act.put,zzA,zzB,zzC]
   refine wpAnyH_done (by kernel_rfl) ?_ _
   refine NoPanic.normal ?_
   obtain⟨w6,hw6⟩:∃w6,w6=w5.setCell ⟨tw,2,none⟩ (ptr b'):=⟨_,rfl⟩
   rw[←hw6]
   have HB6:Hid (Blk w6 tw 41 [ptr t',.pointer none,ptr b',.pointer none]):=by rw[hw6];exact HB5.out.set 2 (ptr b')
   have HC6:Hid (Chg (fun k=>k=tw) w5 w6):=by rw[hw6];exact chg_setCell w5 _ (.inl rfl)
   clear hw6 HB5
   have hc:=HB6.out.cell
   go_wp2_with fail
   exact⟨⟨1,_,_,_,_,by omega,rfl,(HBG.out.G (G.refl wr).drew).more HTB.out HN1.out.1 HN1.out.2.1 HN1.out.2.2.1 HN1.out.2.2.2.1 HN1.out.2.2.2.2 HC4.out HN2.out.1 ((G.refl w4).drew.trans HN2.out.2.1) HN2.out.2.2 HC6.out HB6.out⟩,by decide⟩
  ·clear hn
   have HBG:Hid (BG W wr tw 1 L LR [ptr (t 0),.pointer none,ptr (b 0),.pointer none] t b s D):=hB
   clear hB
   go_wp2_with fail
   refine wp_region_noPanic ?_
   refine wp_region_held_drew (S:=(fun _=>True)) (by kernel_rfl) (trivial) (fun hHeld=>?_)
   refine wpAnyH_take (i:=0) (v:=?_) rfl (by kernel_rfl) (by kernel_rfl) (by kernel_rfl) (fun _ _ _ h=>h) (Or.inl ⟨by rfl,?_⟩) hHeld ?_
   rotate_left 1
   ·(intro w hSw;(try dsimp only at hSw);go_simp;try with_reducible rfl)
   try simp only[Act.put,zzA,zzB,zzD,zzE,zzF]
   refine wpAnyH_take (i:=1) (v:=?_) rfl (by kernel_rfl) (by kernel_rfl) (by kernel_rfl) (fun _ _ _ h=>h) (Or.inl ⟨by rfl,?_⟩) hHeld ?_
   rotate_left 1
   ·(intro w hSw;(try dsimp only at hSw);go_simp;try with_reducible rfl)
   try simp only[Act.put,zzA,zzB,zzC,zzD,zzE,zzF]
   refine wpAnyH_take (i:=3) (v:=?_) rfl (by kernel_rfl) (by kernel_rfl) (by kernel_rfl) (fun _ _ _ h=>h) (Or.inl ⟨by rfl,?_⟩) hHeld ?_
   rotate_left 1
   ·(intro w hSw;(try dsimp only at hSw);go_simp;try with_reducible rfl)
   try simp only[Act.put,zzA,zzB,zzC,zzD,zzE,zzF]
   refine wpAnyH_take (i:=4) (v:=?_) rfl (by kernel_rfl) (by kernel_rfl) (by kernel_rfl) (fun _ _ _ h=>h) (Or.inl ⟨by rfl,?_⟩) hHeld ?_
   rotate_left 1
   ·(intro w hSw;(try dsimp only at hSw);go_simp;try with_reducible rfl)
   try simp only[Act.put,zzA,zzB,zzC,zzD,zzE,zzF]
   refine wpAnyH_ready (rs:=[2]) (by kernel_rfl) (by simp) (AllReadyH.cons rfl (fun K hK=>?_) AllReadyH.nil)
   clear hHeld
   go_simp
   (with_reducible refine(new_any _).mono ?_)
   rintro e w3 ⟨t',s',rfl,hT',hl',hp',g',ht',ho'⟩
   have HN1:Hid (TT w3 t' s'∧(∀x,s'.lv x=none)∧(∀r,s'.pl r=none)∧G wr.drew w3∧(∀k tg,s'.own k=some tg→wr.drew.heap.size≤k)):=⟨hT',hl',hp',g',ho'⟩
   have HB3:Hid (Blk w3 tw 41 [ptr (t 0),.pointer none,ptr (b 0),.pointer none]):=(HBG.out.blk.G ((G.refl wr).drew.trans g'))
   clear hT' hl' hp' g' ho' ht'
   refine hK.out _ _ (trivial) (fun hHeld=>?_)
   clear hK K
   try simp only[Act.put,zzA,zzB,zzC,zzD,zzE,zzF]
   refine wpAnyH_take (i:=5) (v:=?_) rfl (by kernel_rfl) (by kernel_rfl) (by kernel_rfl) (fun _ _ _ h=>h) (Or.inl ⟨by rfl,?_⟩) hHeld ?_
   rotate_left 1
   ·(intro w hSw;(try dsimp only at hSw);go_simp;try with_reducible rfl)
   try simp only[Act.put,zzA,zzB,zzC,zzD,zzE,zzF]
   refine wpAnyH_ready (rs:=[6]) (by kernel_rfl) (by simp) (AllReadyH.cons rfl (fun K hK=>?_) AllReadyH.nil)
   have hc:=HB3.out.cell
   have hf:=HB3.out.frozen
   clear hHeld
   go_simp
   refine hK.out _ _ (trivial) (fun hHeld=>?_)
   clear hK K
   try simp only[Act.put,zzA,zzB,zzC]
   refine wpAnyH_done (by kernel_rfl) ?_ _
   refine NoPanic.normal ?_
   obtain⟨w4,hw4⟩:∃w4,w4=w3.setCell ⟨tw,1,none⟩ (ptr t'):=⟨_,rfl⟩
   rw[←hw4]
   have HB4:Hid (Blk w4 tw 41 [ptr (t 0),ptr t',ptr (b 0),.pointer none]):=by rw[hw4];exact HB3.out.set 1 (ptr t')
   have HC4:Hid (Chg (fun k=>k=tw) w3 w4):=by rw[hw4];exact chg_setCell w3 _ (.inl rfl)
   clear hw4 HB3
   try go_wp2_with fail
   refine wp_region_noPanic ?_
   refine wp_region_held_drew (S:=(fun _=>True)) (by kernel_rfl) (trivial) (fun hHeld=>?_)
   refine wpAnyH_take (i:=0) (v:=?_) rfl (by kernel_rfl) (by kernel_rfl) (by kernel_rfl) (fun _ _ _ h=>h) (Or.inl ⟨by rfl,?_⟩) hHeld ?_
   rotate_left 1
   ·(intro w hSw;(try dsimp only at hSw);go_simp;try with_reducible rfl)
   try simp only[Act.put,zzA,zzB,zzD,zzE,zzF]
   refine wpAnyH_take (i:=1) (v:=?_) rfl (by kernel_rfl) (by kernel_rfl) (by kernel_rfl) (fun _ _ _ h=>h) (Or.inl ⟨by rfl,?_⟩) hHeld ?_
   rotate_left 1
   ·(intro w hSw;(try dsimp only at hSw);go_simp;try with_reducible rfl)
   try simp only[Act.put,zzA,zzB,zzC,zzD,zzE,zzF]
   refine wpAnyH_take (i:=3) (v:=?_) rfl (by kernel_rfl) (by kernel_rfl) (by kernel_rfl) (fun _ _ _ h=>h) (Or.inl ⟨by rfl,?_⟩) hHeld ?_
   rotate_left 1
   ·(intro w hSw;(try dsimp only at hSw);go_simp;try with_reducible rfl)
   try simp only[Act.put,zzA,zzB,zzC,zzD,zzE,zzF]
   refine wpAnyH_take (i:=4) (v:=?_) rfl (by kernel_rfl) (by kernel_rfl) (by kernel_rfl) (fun _ _ _ h=>h) (Or.inl ⟨by rfl,?_⟩) hHeld ?_
   rotate_left 1
   ·(intro w hSw;(try dsimp only at hSw);go_simp;try with_reducible rfl)
   try simp only[Act.put,zzA,zzB,zzC,zzD,zzE,zzF]
   refine wpAnyH_ready (rs:=[2]) (by kernel_rfl) (by simp) (AllReadyH.cons rfl (fun K hK=>?_) AllReadyH.nil)
   clear hHeld
   go_simp
   (with_reducible refine(refnew _).mono ?_)
   rintro e w5 ⟨b',rfl,hR',g',hb'⟩
   have HN2:Hid (RT w5 b' ⟨[],[],[]⟩ (fun k=>k=b')∧G w4.drew w5∧w4.drew.heap.size≤b'):=⟨hR',g',hb'⟩
   have HB5:Hid (Blk w5 tw 41 [ptr (t 0),ptr t',ptr (b 0),.pointer none]):=(HB4.out.G ((G.refl w4).drew.trans g'))
   clear hR' g' hb'
   refine hK.out _ _ (trivial) (fun hHeld=>?_)
   clear hK K
   try simp only[Act.put,zzA,zzB,zzC,zzD,zzE,zzF]
   refine wpAnyH_take (i:=5) (v:=?_) rfl (by kernel_rfl) (by kernel_rfl) (by kernel_rfl) (fun _ _ _ h=>h) (Or.inl ⟨by rfl,?_⟩) hHeld ?_
   rotate_left 1
   ·(intro w hSw;(try dsimp only at hSw);go_simp;try with_reducible rfl)
   try simp only[Act.put,zzA,zzB,zzC,zzD,zzE,zzF]
   refine wpAnyH_ready (rs:=[6]) (by kernel_rfl) (by simp) (AllReadyH.cons rfl (fun K hK=>?_) AllReadyH.nil)
   have hc:=HB5.out.cell
   have hf:=HB5.out.frozen
   clear hHeld
   go_simp
   refine hK.out _ _ (trivial) (fun hHeld=>?_)
   clear hK K
   try simp only[Act.put,zzA,zzB,zzC]
   refine wpAnyH_done (by kernel_rfl) ?_ _
   refine NoPanic.normal ?_
   obtain⟨w6,hw6⟩:∃w6,w6=w5.setCell ⟨tw,3,none⟩ (ptr b'):=⟨_,rfl⟩
   rw[←hw6]
   have HB6:Hid (Blk w6 tw 41 [ptr (t 0),ptr t',ptr (b 0),ptr b']):=by rw[hw6];exact HB5.out.set 3 (ptr b')
   have HC6:Hid (Chg (fun k=>k=tw) w5 w6):=by rw[hw6];exact chg_setCell w5 _ (.inl rfl)
   clear hw6 HB5
   have hc:=HB6.out.cell
   go_wp2_with fail
   exact⟨⟨2,_,_,_,_,by omega,rfl,(HBG.out.G (G.refl wr).drew).more HTB.out HN1.out.1 HN1.out.2.1 HN1.out.2.2.1 HN1.out.2.2.2.1 HN1.out.2.2.2.2 HC4.out HN2.out.1 ((G.refl w4).drew.trans HN2.out.2.1) HN2.out.2.2 HC6.out HB6.out⟩,by decide⟩
  ·have HH:Hid (TW W wr tw L LR 0):=⟨t,b,fun _=>m0,s,fun _=>⟨[],[],[]⟩,D,hB.blk,hB.pq,hB.ap,hB.tn,hB.nw,hB.tl,hB.gg⟩
   clear hn hB
   go_wp2_with fail
   go_ret2
   exact⟨tw,rfl,HH.out⟩
end
section
open Go.RowKit
structure LK(lo:Nat)(w0 w:World)(bb:Nat)(a0 b0 c0 a b c:Kst)(n1 n2 n3:Nat):Prop where
 q:BQ lo w bb a b c n1 n2 n3
 oa:Old a0 a
 ob:Old b0 b
 oc:Old c0 c
 la:a0.es.length≤a.es.length
 lb:b0.es.length≤b.es.length
 lc:c0.es.length≤c.es.length
 ch:Chg (BB bb a0 b0 c0) w0 w
 nw:∀k,BB bb a b c k→BB bb a0 b0 c0 k∨w0.heap.size≤k
section
variable {lo:Nat} {w0 w w':World} {bb n1 n2 n3:Nat} {a0 b0 c0 a b c:Kst} {x:SV}
theorem LK.refl(h:BQ lo w bb a b c n1 n2 n3):LK lo w w bb a b c a b c n1 n2 n3:=⟨h,Old.refl _,Old.refl _,Old.refl _,Nat.le_refl _,Nat.le_refl _,Nat.le_refl _,Chg.refl _ _,fun _ h=>.inl h⟩
theorem LK.G(h:LK lo w0 w bb a0 b0 c0 a b c n1 n2 n3)(g:Go.Proofs.YtadfaiciolfgjaaGreatDoor.G w w'):LK lo w0 w' bb a0 b0 c0 a b c n1 n2 n3:=⟨h.q.G g,h.oa,h.ob,h.oc,h.la,h.lb,h.lc,h.ch.trans g.chg,h.nw⟩
def Stay(w w':World):Prop:=∀k xs,(Blk w k 33 xs→Blk w' k 33 xs)∧(Blk w k 35 xs→Blk w' k 35 xs)
theorem Stay.G(g:Go.Proofs.YtadfaiciolfgjaaGreatDoor.G w w'):Stay w w':=fun _ _=>⟨fun h=>h.G g,fun h=>h.G g⟩
theorem Stay.trans{w1 w2 w3:World}(h:Stay w1 w2)(k:Stay w2 w3):Stay w1 w3:=fun i xs=>⟨fun h1=>(k i xs).1 ((h i xs).1 h1),fun h1=>(k i xs).2 ((h i xs).2 h1)⟩
theorem BK.ty(h:BK lo w bb a b c n1 n2 n3){k:Nat}(hk:BB bb a b c k):∃e,HasTy w k e∧e≠33∧e≠35:=by
 rcases hk with rfl|hk|hk|hk
 ·exact⟨_,h.blk.ty,by decide,by decide⟩
 ·rcases h.i.typ hk with e|e<;>exact⟨_,e,by decide,by decide⟩
 ·rcases h.h.typ hk with e|e<;>exact⟨_,e,by decide,by decide⟩
 ·rcases h.w.typ hk with e|e<;>exact⟨_,e,by decide,by decide⟩
theorem BK.stay(h:BK lo w bb a b c n1 n2 n3)(k:Chg (BB bb a b c) w w'):Stay w w':=fun i xs=>⟨fun hb=>hb.chg k (fun hh=>by
  obtain⟨e,h1,h2,h3⟩:=h.ty hh
  exact h2 (h1.one hb.ty)),fun hb=>hb.chg k (fun hh=>by
  obtain⟨e,h1,h2,h3⟩:=h.ty hh
  exact h3 (h1.one hb.ty))⟩
theorem LK.pusha(h:LK lo w0 w bb a0 b0 c0 a b c n1 n2 n3)(hp:Pua lo w bb a b c n1 n2 n3 x w')(hx:∀k,(sv x).ownBlock=some k→w0.heap.size≤k):(∃q,LK lo w0 w' bb a0 b0 c0 q b c n1 n2 n3∧q.es.length=a.es.length+1)∧Stay w w':=by
 obtain⟨q,h1,h2,h3,h4,h5⟩:=hp
 refine⟨⟨q,⟨h1,h.oa.trans h3 h.la,h.ob,h.oc,Nat.le_trans h.la (by omega),h.lb,h.lc,h.ch.more h4 (fun k hk e=>(h.nw k e).resolve_right (by omega)),fun k hk=>?_⟩,h2⟩,h.q.bk.stay h4⟩
 rcases h5 k hk with e|e|e
 ·exact h.nw k e
 ·exact .inr (Nat.le_trans h.ch.size e)
 ·exact .inr (hx k e)
theorem LK.pushb(h:LK lo w0 w bb a0 b0 c0 a b c n1 n2 n3)(hp:Pub lo w bb a b c n1 n2 n3 x w')(hx:∀k,(sv x).ownBlock=some k→w0.heap.size≤k):(∃q,LK lo w0 w' bb a0 b0 c0 a q c n1 n2 n3∧q.es.length=b.es.length+1)∧Stay w w':=by
 obtain⟨q,h1,h2,h3,h4,h5⟩:=hp
 refine⟨⟨q,⟨h1,h.oa,h.ob.trans h3 h.lb,h.oc,h.la,Nat.le_trans h.lb (by omega),h.lc,h.ch.more h4 (fun k hk e=>(h.nw k e).resolve_right (by omega)),fun k hk=>?_⟩,h2⟩,h.q.bk.stay h4⟩
 rcases h5 k hk with e|e|e
 ·exact h.nw k e
 ·exact .inr (Nat.le_trans h.ch.size e)
 ·exact .inr (hx k e)
theorem LK.pushc(h:LK lo w0 w bb a0 b0 c0 a b c n1 n2 n3)(hp:Puc lo w bb a b c n1 n2 n3 x w')(hx:∀k,(sv x).ownBlock=some k→w0.heap.size≤k):(∃q,LK lo w0 w' bb a0 b0 c0 a b q n1 n2 n3∧q.es.length=c.es.length+1)∧Stay w w':=by
 obtain⟨q,h1,h2,h3,h4,h5⟩:=hp
 refine⟨⟨q,⟨h1,h.oa,h.ob,h.oc.trans h3 h.lc,h.la,h.lb,Nat.le_trans h.lc (by omega),h.ch.more h4 (fun k hk e=>(h.nw k e).resolve_right (by omega)),fun k hk=>?_⟩,h2⟩,h.q.bk.stay h4⟩
 rcases h5 k hk with e|e|e
 ·exact h.nw k e
 ·exact .inr (Nat.le_trans h.ch.size e)
 ·exact .inr (hx k e)
theorem LK.ints(h:LK lo w0 w bb a0 b0 c0 a b c n1 n2 n3)(hlo:lo≤w0.heap.size)(hl:a.es.length<900000000)(g:Go.Proofs.YtadfaiciolfgjaaGreatDoor.G w w')(ids:List Int)(hi:ids.length<4100000000000){u v:Value}{lo4:Nat}(o3:w'.ownsRow w.heap.size 3 1 u ids.length (ids.map fun z=>I z))(o4:w'.ownsRow lo4 3 1 v ids.length (ids.map fun z=>I z)):Calls prog 7 #[ptr bb,u,v] w' fun e w2=>e=.returned (.tuple #[])∧(∃q,LK lo w0 w2 bb a0 b0 c0 q b c n1 n2 n3∧q.es.length=a.es.length+1)∧Stay w' w2:=by
 obtain⟨x,rfl,hx⟩:=own_sv o3
 obtain⟨y,rfl,hy⟩:=own_sv o4
 have hs:lo≤w.heap.size:=Nat.le_trans hlo h.ch.size
 have hg:=h.G g
 refine(ints_any x y (ids.map fun z=>I z) hg.q (Nat.le_trans hs g.size) hl (by rw[hx];exact own_low o3 hs) (fun k hk hh=>?_) (by rw[hx];exact own_low o4 (Nat.zero_le _)) (by rw[hx,hy]) ⟨ids,hx.symm,by rw[hx];exact hi,rfl⟩).mono ?_
 ·have h1:=(World.ownsRow.lt o3 k hk).1
  have h2:=h.q.bk.lt (.inr (.inl hh):BB bb a b c k)
  omega
 ·rintro e w2 ⟨rfl,hp⟩
  exact⟨rfl,hg.pusha hp (fun k hk=>Nat.le_trans h.ch.size (World.ownsRow.lt o3 k hk).1)⟩
theorem LK.helds(h:LK lo w0 w bb a0 b0 c0 a b c n1 n2 n3)(hlo:lo≤w0.heap.size)(hl:b.es.length<900000000)(g:Go.Proofs.YtadfaiciolfgjaaGreatDoor.G w w')(ids:List (Int×Int))(hi:ids.length<4100000000000){u v:Value}{lo4:Nat}(o3:w'.ownsRow w.heap.size 68 2 u ids.length (qc ids))(o4:w'.ownsRow lo4 68 2 v ids.length (qc ids)):Calls prog 52 #[ptr bb,u,v] w' fun e w2=>e=.returned (.tuple #[])∧(∃q,LK lo w0 w2 bb a0 b0 c0 a q c n1 n2 n3∧q.es.length=b.es.length+1)∧Stay w' w2:=by
 obtain⟨x,rfl,hx⟩:=own_sv o3
 obtain⟨y,rfl,hy⟩:=own_sv o4
 have hs:lo≤w.heap.size:=Nat.le_trans hlo h.ch.size
 have hg:=h.G g
 refine(helds_any x y (qc ids) hg.q (Nat.le_trans hs g.size) hl (by rw[hx];exact own_low o3 hs) (fun k hk hh=>?_) (by rw[hx];exact own_low o4 (Nat.zero_le _)) (by rw[hx,hy]) ⟨ids,hx.symm,by rw[hx];exact hi,rfl⟩).mono ?_
 ·have h1:=(World.ownsRow.lt o3 k hk).1
  have h2:=h.q.bk.lt (.inr (.inr (.inl hh)):BB bb a b c k)
  omega
 ·rintro e w2 ⟨rfl,hp⟩
  exact⟨rfl,hg.pushb hp (fun k hk=>Nat.le_trans h.ch.size (World.ownsRow.lt o3 k hk).1)⟩
end
section
variable {w:World} {t b c:Nat} {m:Ms} {L:List Int} {LR:List Rs} {s:Gs} {R:Rt} {D:Nat→Prop}
theorem waits_exp(h:PQ w t b m L LR s R D c)(hc:c*L.length<2000000000000)(hc2:c<200000000000)(hL:L.length<100000000000):(waiP R (livP R)).length<2000000000000∧(∀U,G w U→Calls prog 48 #[ptr t] U fun e w'=>∃v,e=.returned v∧w'.ownsRow U.heap.size 101 5 v (waiP R (livP R)).length (gc (waiP R (livP R)))∧G U w')∧(∀U,G w U→Calls prog 49 #[ptr b] U fun e w'=>∃v,e=.returned v∧w'.ownsRow U.heap.size 101 5 v (waiP R (livP R)).length (gc (waiP R (livP R)))∧G U w'):=by
 have h1:=h.lt;have h2:=h.la
 have hs:=liv_same h.rm
 have hw:WtP m (livP R) (waiP R (livP R)):=by
  have h3:=wai_of h (livP R) (putsP_up _) (fun x hx=>by
   obtain⟨e,he,rfl⟩:=List.mem_map.1 ((putsP_mem (R.tx.map Tx.x) x).1 hx)
   obtain⟨p,k1,-⟩:=h.rm.tx.ok e he
   exact⟨p,k1⟩) (livP R).length (Nat.le_refl _)
  rw[List.take_length] at h3
  exact h3
 have hB:∀n q,R.aq[n]?=some q→(inwP R n q).length≤L.length:=fun n q hq=>nodup_sub_le0 _ L (rise_nodup (inwP_up R n q)) (fun y hy=>by
  have h3:=(h.rm.hq.way R.tx hq (h.gt.iv.qn _) y).1 hy
  obtain⟨-,p,hp⟩:=h.gt.iv.way (fun j g' hj hj2=>by have:=nodup_at (h.gt.iv.qn _) (h.rm.hq.at hq) hj2;omega) h3
  exact(h.gt.iv.lv y p hp).xl)
 have hmul:R.tx.length*L.length<2000000000000:=Nat.lt_of_le_of_lt (Nat.mul_le_mul_right _ h1) hc
 have hll:(livP R).length≤R.tx.length:=by
  have:=putsP_len (R.tx.map Tx.x)
  rw[List.length_map] at this
  exact this
 have hlen:=waiP_len hB (livP R)
 have hlen2:(livP R).length*L.length≤R.tx.length*L.length:=Nat.mul_le_mul_right _ hll
 refine⟨by omega,fun U g=>?_,fun U g=>?_⟩
 ·refine(waits_t (h.G g).gt (bk_of h.rm) (by rw[List.length_map];omega) (by omega) (by rw[List.length_map];exact hmul)).mono ?_
  rintro e w' ⟨v,wl,rfl,k1,k2,k3,-⟩
  rw[hs] at k1
  rw[wtP_one k1 hw] at k2
  exact⟨v,rfl,k2,k3⟩
 ·obtain⟨vt,vh,va,tv,hR⟩:=(h.G g).rt
  exact waits_r hR L.length hB hmul (by omega)
end
end
section
open Go.RowKit
theorem r64w(y:Int):R64 (wrap64 y):=by unfold R64 wrap64;omega
theorem ok1:(⟨1,⟨#[]⟩,0⟩:Rs).ok:=by unfold Rs.ok R64;decide
theorem look_any{lo:Nat}{w:World}{bb n1 n2 n3:Nat}{a b c:Kst}{t tb cc:Nat}{m:Ms}{L:List Int}{LR:List Rs}{s:Gs}{R:Rt}{D:Nat→Prop}(h:BQ lo w bb a b c n1 n2 n3)(hp:PQ w t tb m L LR s R D cc)(hap:∀k,PB s D k→¬BB bb a b c k)(hgl:¬BB bb a b c 1∧¬BB bb a b c 0)(hlo:lo≤w.heap.size)(hl:a.es.length<800000000∧b.es.length<800000000∧c.es.length<800000000)(kd who x st md:Int)(r:Rs)(hro:r.ok)(hL:L.length<100000000000)(hc:cc<200000000000)(hcL:cc*L.length<2000000000000):Calls prog 11 #[ptr bb,ptr t,ptr tb,.agg #[I kd,I who,I x,I st,I r.lv,.string r.lb,I r.id,I md]] w fun e w'=>e=.returned (.tuple #[])∧∃a' b' c',LK lo w w' bb a b c a' b' c' n1 n2 n3∧a'.es.length=a.es.length+6∧b'.es.length=b.es.length+6∧c'.es.length=c.es.length+3:=by
 have g1:G w (w.alloc (.cells #[I kd,I who,I x,I st,I r.lv,.string r.lb,I r.id,I md] 35)):=(G.refl w).alloc _
 have HB1:Hid (Blk (w.alloc (.cells #[I kd,I who,I x,I st,I r.lv,.string r.lb,I r.id,I md] 35)) w.heap.size 35 [I kd,I who,I x,I st,I r.lv,.string r.lb,I r.id,I md]):=Blk.new w _ 35
 obtain⟨w1,hw1⟩:∃w1,w1=(w.alloc (.cells #[I kd,I who,I x,I st,I r.lv,.string r.lb,I r.id,I md] 35)):=⟨_,rfl⟩
 obtain⟨bx,hbx⟩:∃bx,bx=w.heap.size:=⟨_,rfl⟩
 have HPQ:Hid (∀U,Chg (BB bb a b c) w1 U→PQ U t tb m L LR s R D cc):=fun U ch=>((by rw[hw1];exact hp.G g1:PQ w1 t tb m L LR s R D cc)).far ch hap hgl
 have HQ1:Hid (BQ lo w1 bb a b c n1 n2 n3):=by rw[hw1];exact h.G g1
 have HG1:Hid (G w w1):=by rw[hw1];exact g1
 have HLO:=hide hlo;have HLN:=hide hl;have HRO:=hide hro;have HL:=hide hL;have HC:=hide hc;have HCL:=hide hcL
 clear h hp hap hgl hlo hl hro hL hc hcL g1
 go_enter func11,ntmps11
 go_wp2_with fail
 rw[←hw1,←hbx] at HB1
 rw[←hw1,←hbx]
 clear hw1 hbx
 go_loopw [8] (fun kv wr=>∃(n:Nat) (a1 b1 c1:Kst),n≤3∧kv=I (n:Int)∧LK lo w1 wr bb a b c a1 b1 c1 n1 n2 n3∧(a1.es.length=a.es.length+2*n∧b1.es.length=b.es.length+2*n∧c1.es.length=c.es.length+n)∧Blk wr bx 35 [I kd,I who,I x,I st,I r.lv,.string r.lb,I r.id,I md]) (fun kv _=>3-(RowKit.intOf kv).toNat)
 case atStart=>exact⟨0,a,b,c,Nat.zero_le _,rfl,LK.refl HQ1.out,⟨rfl,rfl,rfl⟩,HB1.out⟩
 case round=>
  clear HB1
  obtain⟨n,a1,b1,c1,hn,rfl,hLK,hlen,hbx⟩:=hrel
  rcases(show n=3∨n=0∨n=1∨n=2 by omega)with rfl|rfl|rfl|rfl
  ·have HFN:Hid (∃a' b' c',LK lo w wr bb a b c a' b' c' n1 n2 n3∧a'.es.length=a.es.length+6∧b'.es.length=b.es.length+6∧c'.es.length=c.es.length+3):=⟨a1,b1,c1,⟨hLK.q,hLK.oa,hLK.ob,hLK.oc,hLK.la,hLK.lb,hLK.lc,(HG1.out.chg).trans hLK.ch,fun k hk=>(hLK.nw k hk).imp id (Nat.le_trans HG1.out.size)⟩,hlen.1,hlen.2.1,hlen.2.2⟩
   clear hn hLK hlen hbx
   go_wp2_with fail
   go_end0
   exact⟨rfl,HFN.out⟩
  all_goals
   clear hn
   have hlen3:=hlen
   have HLK:=hide hLK;have HBX:=hide hbx
   have HLL:Hid (a1.es.length<850000000∧b1.es.length<850000000∧c1.es.length<850000000):=by have h0:=HLN.out;show _∧_∧_;omega
   have HLEN:=hide hlen3
   have c0:=HBX.out.cell
   clear hLK hlen hlen3 hbx
   go_wp2_with (first|(go_at_call 50;refine Hid.out ?_)|fail)
   unfold Hid
   first|(obtain⟨V0,hV0⟩:∃V0,V0=wr.alloc (.cells #[I 1,.string ⟨#[]⟩,I 0] 33):=⟨_,rfl⟩;rw[←hV0];have HG0:Hid (G wr V0):=(by rw[hV0];exact(G.refl wr).alloc _);obtain⟨q,hq⟩:∃q:Rs,q=(⟨1,⟨#[]⟩,0⟩:Rs):=⟨_,rfl⟩;have HOK:Hid q.ok:=(by rw[hq];exact ok1);have HR0:Hid (Blk V0 wr.heap.size 33 [I q.lv,.string q.lb,I q.id]):=(by rw[hV0,hq];exact Blk.new wr [I 1,.string ⟨#[]⟩,I 0] 33);obtain⟨z,hz⟩:∃z,z=wrap64 (x+1):=⟨_,rfl⟩;rw[←hz];have HZ0:Hid (R64 z):=(by rw[hz];exact r64w _);clear hV0 hq hz)|(obtain⟨V0,hV0⟩:∃V0,V0=wr.alloc (.cells #[I r.lv,.string r.lb,I r.id] 33):=⟨_,rfl⟩;rw[←hV0];have HG0:Hid (G wr V0):=(by rw[hV0];exact(G.refl wr).alloc _);obtain⟨q,hq⟩:∃q:Rs,q=r:=⟨_,rfl⟩;have HOK:Hid q.ok:=(by rw[hq];exact HRO.out);have HR0:Hid (Blk V0 wr.heap.size 33 [I q.lv,.string q.lb,I q.id]):=(by rw[hV0,hq];exact Blk.new wr [I r.lv,.string r.lb,I r.id] 33);obtain⟨z,hz⟩:∃z,z=wrap64 x:=⟨_,rfl⟩;rw[←hz];have HZ0:Hid (R64 z):=(by rw[hz];exact r64w _);clear hV0 hq hz)
   clear c0
   obtain⟨rb,hrb⟩:∃rb,rb=wr.heap.size:=⟨_,rfl⟩
   rw[←hrb] at HR0⊢
   clear hrb
   have HX0:=hide (HBX.out.G HG0.out)
   have HK0:=hide (HLK.out.G HG0.out)
   have HN0:Hid (a1.es.length<850000000+0):=by have:=HLL.out;show _<_;omega
   have HM0:Hid (b1.es.length<850000000+0):=by have:=HLL.out;show _<_;omega
   clear HLK HBX HG0
   obtain⟨ids,e2,hids,K1,K2⟩:=wounders_both (HPQ.out _ HK0.out.ch) HC.out HL.out (x:=z) HZ0.out
   have KA:=hide (K1 V0 (G.refl _));have KB:=hide K2;have HID:=hide hids
   clear K1 K2 hids
   refine(KA.out).mono ?_
   rintro e p1 ⟨u3,rfl,o3,g3⟩
   have HO3:=hide o3;have HG3:=hide g3
   clear o3 g3 KA
   go_wp2_with (first|(go_at_call 51;refine Hid.out ?_)|fail)
   unfold Hid
   refine(KB.out p1 HG3.out).mono ?_
   rintro e p2 ⟨u4,rfl,o4,g4⟩
   have KI:=hide (HK0.out.ints (Nat.le_trans HLO.out HG1.out.size) (show a1.es.length<900000000 by have:=HN0.out;omega) (HG3.out.trans g4) ids HID.out (own_G HO3.out g4) o4)
   have HG4:=hide (HG3.out.trans g4)
   clear o4 g4 HO3 HG3 KB HID
   go_wp2_with (first|(go_at_call 7;refine Hid.out ?_)|fail)
   unfold Hid
   refine(KI.out).mono ?_
   rintro e p3 ⟨rfl,⟨a2,hk,he⟩,hs⟩
   have HK1:=hide hk
   have HE0:=hide he
   have HR1:=hide ((hs _ _).1 (HR0.out.G HG4.out))
   have HX1:=hide ((hs _ _).2 (HX0.out.G HG4.out))
   have HN1:Hid (a2.es.length<850000000+1):=by have h1:=HN0.out;show _<_;omega
   clear hk he hs HG4 KI HR0 HX0 HK0
   obtain⟨ids2,hids,K1,K2⟩:=live_both (HPQ.out _ HK1.out.ch) HC.out
   have KA:=hide (K1 p3 (G.refl _));have KB:=hide K2;have HID:=hide hids
   clear K1 K2 hids
   go_wp2_with (first|(go_at_call 45;refine Hid.out ?_)|fail)
   unfold Hid
   refine(KA.out).mono ?_
   rintro e p4 ⟨u3,rfl,o3,g3⟩
   have HO3:=hide o3;have HG3:=hide g3
   clear o3 g3 KA
   go_wp2_with (first|(go_at_call 46;refine Hid.out ?_)|fail)
   unfold Hid
   refine(KB.out p4 HG3.out).mono ?_
   rintro e p5 ⟨u4,rfl,o4,g4⟩
   have KI:=hide (HK1.out.ints (Nat.le_trans HLO.out HG1.out.size) (show a2.es.length<900000000 by have:=HN1.out;omega) (HG3.out.trans g4) ids2 HID.out (own_G HO3.out g4) o4)
   have HG4:=hide (HG3.out.trans g4)
   clear o4 g4 HO3 HG3 KB HID
   go_wp2_with (first|(go_at_call 7;refine Hid.out ?_)|fail)
   unfold Hid
   refine(KI.out).mono ?_
   rintro e p6 ⟨rfl,⟨a3,hk,he⟩,hs⟩
   have HK2:=hide hk
   have HE1:=hide he
   have HR2:=hide ((hs _ _).1 (HR1.out.G HG4.out))
   have HX2:=hide ((hs _ _).2 (HX1.out.G HG4.out))
   have HN2:Hid (a3.es.length<850000000+2):=by have h1:=HN1.out;show _<_;omega
   clear hk he hs HG4 KI HR1 HX1 HK1
   obtain⟨l,hll,K1,K2⟩:=holders_both (HPQ.out _ HK2.out.ch) HC.out HL.out (r:=q) HOK.out
   have KA:=hide K1;have KB:=hide K2;have HIL:=hide hll
   clear K1 K2 hll
   go_wp2_with fail
   refine wp_region_noPanic ?_
   refine wp_region_held_drew (S:=(fun U=>∀o,U.cell? ⟨rb,o,none⟩=([I q.lv,.string q.lb,I q.id]:List Value)[o]?)) (by kernel_rfl) ((HR2.out.drew).cell) (fun hHeld=>?_)
   refine wpAnyH_take (i:=0) (v:=?_) rfl (by kernel_rfl) (by kernel_rfl) (by kernel_rfl) (fun _ _ _ h=>h) (Or.inl ⟨by rfl,?_⟩) hHeld ?_
   rotate_left 1
   ·(intro w hSw;have c0:=hSw;go_simp;try with_reducible rfl)
   try simp only[Act.put,zzA,zzB,zzD,zzE,zzF]
   refine wpAnyH_take (i:=1) (v:=?_) rfl (by kernel_rfl) (by kernel_rfl) (by kernel_rfl) (fun _ _ _ h=>h) (Or.inl ⟨by rfl,?_⟩) hHeld ?_
   rotate_left 1
   ·(intro w hSw;have c0:=hSw;go_simp;try with_reducible rfl)
   try simp only[Act.put,zzA,zzB,zzC,zzD,zzE,zzF]
   refine wpAnyH_take (i:=2) (v:=?_) rfl (by kernel_rfl) (by kernel_rfl) (by kernel_rfl) (fun _ _ _ h=>h) (Or.inl ⟨by rfl,?_⟩) hHeld ?_
   rotate_left 1
   ·(intro w hSw;have c0:=hSw;go_simp;try with_reducible rfl)
   try simp only[Act.put,zzA,zzB,zzC,zzD,zzE,zzF]
   refine wpAnyH_take (i:=4) (v:=?_) rfl (by kernel_rfl) (by kernel_rfl) (by kernel_rfl) (fun _ _ _ h=>h) (Or.inl ⟨by rfl,?_⟩) hHeld ?_
   rotate_left 1
   ·(intro w hSw;have c0:=hSw;go_simp;try with_reducible rfl)
   try simp only[Act.put,zzA,zzB,zzC,zzD,zzE,zzF]
   refine wpAnyH_take (i:=5) (v:=?_) rfl (by kernel_rfl) (by kernel_rfl) (by kernel_rfl) (fun _ _ _ h=>h) (Or.inl ⟨by rfl,?_⟩) hHeld ?_
   rotate_left 1
   ·(intro w hSw;have c0:=hSw;go_simp;try with_reducible rfl)
   try simp only[Act.put,zzA,zzB,zzC,zzD,zzE,zzF]
   refine wpAnyH_ready (rs:=[3]) (by kernel_rfl) (by simp) (AllReadyH.cons rfl (fun K hK=>?_) AllReadyH.nil)
   clear hHeld
   go_simp
   (with_reducible refine(KA.out _ (G.refl p6).drew).mono ?_)
   rintro e p7 ⟨u3,rfl,o3,g3⟩
   have HG3:Hid (G p6 p7):=(G.refl p6).drew.trans g3
   have HO3:=hide o3
   clear g3 o3
   refine hK.out _ _ ((HR2.out.G HG3.out).cell) (fun hHeld=>?_)
   clear hK K
   try simp only[Act.put,zzA,zzB,zzC,zzD,zzE,zzF]
   refine wpAnyH_ready (rs:=[6]) (by kernel_rfl) (by simp) (AllReadyH.cons rfl (fun K hK=>?_) AllReadyH.nil)
   clear hHeld
   go_simp
   (with_reducible refine(KB.out _ HG3.out).mono ?_)
   rintro e p8 ⟨u4,rfl,o4,g4⟩
   have HG4:=hide g4;have HO4:=hide o4
   clear g4 o4
   refine hK.out _ _ ((HR2.out.G (HG3.out.trans HG4.out)).cell) (fun hHeld=>?_)
   clear hK K
   try simp only[Act.put,zzA,zzB,zzC,zzD,zzE,zzF]
   refine wpAnyH_ready (rs:=[7]) (by kernel_rfl) (by simp) (AllReadyH.cons rfl (fun K hK=>?_) AllReadyH.nil)
   clear hHeld
   go_simp
   refine(HK2.out.helds (Nat.le_trans HLO.out HG1.out.size) (show b1.es.length<900000000 by have:=HM0.out;omega) (HG3.out.trans HG4.out) l HIL.out (own_low (own_G HO3.out HG4.out) (Nat.le_refl _)) HO4.out).mono ?_
   rintro e p9 ⟨rfl,⟨b2,hk,he⟩,hs⟩
   have HK3:=hide hk
   have HE2:=hide he
   have HR3:=hide ((hs _ _).1 (HR2.out.G (HG3.out.trans HG4.out)))
   have HX3:=hide ((hs _ _).2 (HX2.out.G (HG3.out.trans HG4.out)))
   have HM3:Hid (b2.es.length<850000000+3):=by have h1:=HM0.out;show _<_;omega
   clear hk he hs
   refine hK.out _ _ (HR3.out.cell) (fun hHeld=>?_)
   clear hK K
   try simp only[Act.put,zzA,zzB,zzC,zzD,zzE,zzF]
   refine wpAnyH_done (by kernel_rfl) ?_ _
   refine NoPanic.normal ?_
   clear HG3 HG4 HO3 HO4 KA KB HIL HR2 HX2 HK2
   clear l
   obtain⟨l,hll,K1,K2⟩:=queue_both (HPQ.out _ HK3.out.ch) HC.out HL.out (r:=q) HOK.out
   have KA:=hide K1;have KB:=hide K2;have HIL:=hide hll
   clear K1 K2 hll
   go_wp2_with fail
   refine wp_region_noPanic ?_
   refine wp_region_held_drew (S:=(fun U=>∀o,U.cell? ⟨rb,o,none⟩=([I q.lv,.string q.lb,I q.id]:List Value)[o]?)) (by kernel_rfl) ((HR3.out.drew).cell) (fun hHeld=>?_)
   refine wpAnyH_take (i:=0) (v:=?_) rfl (by kernel_rfl) (by kernel_rfl) (by kernel_rfl) (fun _ _ _ h=>h) (Or.inl ⟨by rfl,?_⟩) hHeld ?_
   rotate_left 1
   ·(intro w hSw;have c0:=hSw;go_simp;try with_reducible rfl)
   try simp only[Act.put,zzA,zzB,zzD,zzE,zzF]
   refine wpAnyH_take (i:=1) (v:=?_) rfl (by kernel_rfl) (by kernel_rfl) (by kernel_rfl) (fun _ _ _ h=>h) (Or.inl ⟨by rfl,?_⟩) hHeld ?_
   rotate_left 1
   ·(intro w hSw;have c0:=hSw;go_simp;try with_reducible rfl)
   try simp only[Act.put,zzA,zzB,zzC,zzD,zzE,zzF]
   refine wpAnyH_take (i:=2) (v:=?_) rfl (by kernel_rfl) (by kernel_rfl) (by kernel_rfl) (fun _ _ _ h=>h) (Or.inl ⟨by rfl,?_⟩) hHeld ?_
   rotate_left 1
   ·(intro w hSw;have c0:=hSw;go_simp;try with_reducible rfl)
   try simp only[Act.put,zzA,zzB,zzC,zzD,zzE,zzF]
   refine wpAnyH_take (i:=4) (v:=?_) rfl (by kernel_rfl) (by kernel_rfl) (by kernel_rfl) (fun _ _ _ h=>h) (Or.inl ⟨by rfl,?_⟩) hHeld ?_
   rotate_left 1
   ·(intro w hSw;have c0:=hSw;go_simp;try with_reducible rfl)
   try simp only[Act.put,zzA,zzB,zzC,zzD,zzE,zzF]
   refine wpAnyH_take (i:=5) (v:=?_) rfl (by kernel_rfl) (by kernel_rfl) (by kernel_rfl) (fun _ _ _ h=>h) (Or.inl ⟨by rfl,?_⟩) hHeld ?_
   rotate_left 1
   ·(intro w hSw;have c0:=hSw;go_simp;try with_reducible rfl)
   try simp only[Act.put,zzA,zzB,zzC,zzD,zzE,zzF]
   refine wpAnyH_ready (rs:=[3]) (by kernel_rfl) (by simp) (AllReadyH.cons rfl (fun K hK=>?_) AllReadyH.nil)
   clear hHeld
   go_simp
   (with_reducible refine(KA.out _ (G.refl p9).drew).mono ?_)
   rintro e q1 ⟨u3,rfl,o3,g3⟩
   have HG3:Hid (G p9 q1):=(G.refl p9).drew.trans g3
   have HO3:=hide o3
   clear g3 o3
   refine hK.out _ _ ((HR3.out.G HG3.out).cell) (fun hHeld=>?_)
   clear hK K
   try simp only[Act.put,zzA,zzB,zzC,zzD,zzE,zzF]
   refine wpAnyH_ready (rs:=[6]) (by kernel_rfl) (by simp) (AllReadyH.cons rfl (fun K hK=>?_) AllReadyH.nil)
   clear hHeld
   go_simp
   (with_reducible refine(KB.out _ HG3.out).mono ?_)
   rintro e q2 ⟨u4,rfl,o4,g4⟩
   have HG4:=hide g4;have HO4:=hide o4
   clear g4 o4
   refine hK.out _ _ ((HR3.out.G (HG3.out.trans HG4.out)).cell) (fun hHeld=>?_)
   clear hK K
   try simp only[Act.put,zzA,zzB,zzC,zzD,zzE,zzF]
   refine wpAnyH_ready (rs:=[7]) (by kernel_rfl) (by simp) (AllReadyH.cons rfl (fun K hK=>?_) AllReadyH.nil)
   clear hHeld
   go_simp
   refine(HK3.out.helds (Nat.le_trans HLO.out HG1.out.size) (show b2.es.length<900000000 by have:=HM3.out;omega) (HG3.out.trans HG4.out) l HIL.out (own_low (own_G HO3.out HG4.out) (Nat.le_refl _)) HO4.out).mono ?_
   rintro e q3 ⟨rfl,⟨b3,hk,he⟩,hs⟩
   have HK4:=hide hk
   have HE3:=hide he
   have HR4:=hide ((hs _ _).1 (HR3.out.G (HG3.out.trans HG4.out)))
   have HX4:=hide ((hs _ _).2 (HX3.out.G (HG3.out.trans HG4.out)))
   have HM4:Hid (b3.es.length<850000000+4):=by have h1:=HM3.out;show _<_;omega
   clear hk he hs
   refine hK.out _ _ (HR4.out.cell) (fun hHeld=>?_)
   clear hK K
   try simp only[Act.put,zzA,zzB,zzC,zzD,zzE,zzF]
   refine wpAnyH_done (by kernel_rfl) ?_ _
   refine NoPanic.normal ?_
   clear HG3 HG4 HO3 HO4 KA KB HIL HR3 HX3 HK3
   clear l
   have HBB:Hid (Blk q3 bb 31 [a3.v,a3.u,b3.v,b3.u,c1.v,c1.u,I n1,I n2,I n3]):=HK4.out.q.bk.blk
   obtain⟨l,hl0⟩:∃l,l=waiP R (livP R):=⟨_,rfl⟩
   have HL0:=hide hl0
   clear hl0
   obtain⟨hll,K1,-⟩:=waits_exp (HPQ.out _ HK4.out.ch) HCL.out HC.out HL.out
   rw[←HL0.out] at hll K1
   have KA:=hide K1;have HIL:=hide hll
   clear hll K1
   go_wp2_with fail
   refine wp_region_noPanic ?_
   refine wp_region_L (S:=(fun U=>∀o,U.cell? ⟨bb,o,none⟩=([a3.v,a3.u,b3.v,b3.u,c1.v,c1.u,I n1,I n2,I n3]:List Value)[o]?)) 11 (by kernel_rfl) (HBB.out.drew.cell) (fun hHeld=>?_)
   refine wpAnyL_take (i:=0) (v:=?_) rfl (by kernel_rfl) (by kernel_rfl) (by kernel_rfl) (by kernel_rfl) (fun _ _ _ h=>h) (Or.inl ⟨by rfl,?_⟩) hHeld ?_
   rotate_left 1
   ·(intro w hSw;have c0:=hSw;go_simp;try with_reducible rfl)
   try simp only[Act.put,zzA,zzB,zzD,zzE,zzF]
   refine wpAnyL_take (i:=1) (v:=?_) rfl (by kernel_rfl) (by kernel_rfl) (by kernel_rfl) (by kernel_rfl) (fun _ _ _ h=>h) (Or.inl ⟨by rfl,?_⟩) hHeld ?_
   rotate_left 1
   ·(intro w hSw;have c0:=hSw;go_simp;try with_reducible rfl)
   try simp only[Act.put,zzA,zzB,zzC,zzD,zzE,zzF]
   refine wpAnyL_take (i:=2) (v:=?_) rfl (by kernel_rfl) (by kernel_rfl) (by kernel_rfl) (by kernel_rfl) (fun _ _ _ h=>h) (Or.inl ⟨by rfl,?_⟩) hHeld ?_
   rotate_left 1
   ·(intro w hSw;have c0:=hSw;go_simp;try with_reducible rfl)
   try simp only[Act.put,zzA,zzB,zzC,zzD,zzE,zzF]
   refine wpAnyL_take (i:=3) (v:=?_) rfl (by kernel_rfl) (by kernel_rfl) (by kernel_rfl) (by kernel_rfl) (fun _ _ _ h=>h) (Or.inl ⟨by rfl,?_⟩) hHeld ?_
   rotate_left 1
   ·(intro w hSw;have c0:=hSw;go_simp;try with_reducible rfl)
   try simp only[Act.put,zzA,zzB,zzC,zzD,zzE,zzF]
   refine wpAnyL_take (i:=4) (v:=?_) rfl (by kernel_rfl) (by kernel_rfl) (by kernel_rfl) (by kernel_rfl) (fun _ _ _ h=>h) (Or.inl ⟨by rfl,?_⟩) hHeld ?_
   rotate_left 1
   ·(intro w hSw;have c0:=hSw;go_simp;try with_reducible rfl)
   try simp only[Act.put,zzA,zzB,zzC,zzD,zzE,zzF]
   refine wpAnyL_take (i:=5) (v:=?_) rfl (by kernel_rfl) (by kernel_rfl) (by kernel_rfl) (by kernel_rfl) (fun _ _ _ h=>h) (Or.inl ⟨by rfl,?_⟩) hHeld ?_
   rotate_left 1
   ·(intro w hSw;have c0:=hSw;go_simp;try with_reducible rfl)
   try simp only[Act.put,zzA,zzB,zzC,zzD,zzE,zzF]
   refine wpAnyL_one (i:=6) (by kernel_rfl) rfl (by kernel_rfl) (fun K hK=>?_)
   clear hHeld
   go_simp
   (with_reducible refine(KA.out _ (G.refl q3).drew).mono ?_)
   rintro e y1 ⟨u3,rfl,o3,g3⟩
   have HG3:Hid (G q3 y1):=(G.refl q3).drew.trans g3
   obtain⟨⟨xa,xn,xc⟩,hu3,hxn⟩:=own_sv o3
   dsimp only at hxn
   have HO3:Hid (y1.ownsRow q3.heap.size 101 5 (sv (xa,xn,xc)) xn (gc l)):=by rw[←hu3,hxn];exact own_low o3 (Nat.le_refl _)
   have HXN:=hide hxn
   obtain⟨v1,y2,r1,k1,c12,o1⟩:=app_svc y1 lo c1.v c1.es (xa,xn,xc) (HK4.out.G HG3.out).q.bk.w.r1 (show c1.es.length<1000000000 by have:=HLL.out;omega) (Nat.le_trans (Nat.le_trans HLO.out HG1.out.size) (Nat.le_trans HK4.out.ch.size HG3.out.size))
   obtain⟨⟨va,vn,vc⟩,hv1,-⟩:=own_sv k1
   have HB2:Hid (Blk y2 bb 31 [a3.v,a3.u,b3.v,b3.u,c1.v,c1.u,I n1,I n2,I n3]):=(halfc (v1:=v1) (HK4.out.G HG3.out).q ((G.refl y1).alloc _) c12 (G.refl _)).1
   subst hv1
   have HK1:=hide k1;have HC12:=hide c12;have HO1:=hide o1
   simp only[sv] at hu3 r1
   subst hu3
   have HR1:=hide r1
   clear o3 g3 hxn r1 k1 c12 o1
   refine hK.out _ _ ((HBB.out.G HG3.out).cell) (fun hHeld=>?_)
   clear hK K
   try simp only[Act.put,zzA,zzB,zzC,zzD,zzE,zzF]
   refine wpAnyL_one (i:=7) (by kernel_rfl) rfl (by kernel_rfl) (fun K hK=>?_)
   clear hHeld
   go_simp
   refine hK.out _ _ (((HBB.out.G HG3.out).G ((G.refl y1).alloc _)).cell) (fun hHeld=>?_)
   clear hK K
   try simp only[Act.put,zzA,zzB,zzC,zzD,zzE,zzF]
   refine wpAnyL_one (i:=8) (by kernel_rfl) rfl (by kernel_rfl) (fun K hK=>?_)
   clear hHeld
   refine(if_pos rfl).mpr ?_
   refine wp_of_exec (exec_append _ _ 29 rfl c1.v (.slice (some ⟨y1.heap.size,0,none⟩) 1 1) rfl rfl 29 rfl HR1.out) ?_
   refine hK.out _ _ (HB2.out.cell) (fun hHeld=>?_)
   clear hK K
   try simp only[Act.put,zzA,zzB,zzC,zzD,zzE,zzF]
   refine wpAnyL_take2 10 (i:=9) (v:=?_) rfl (by kernel_rfl) (by kernel_rfl) (by kernel_rfl) (by kernel_rfl) (fun _ _ _ h=>h) (Or.inl ⟨by rfl,?_⟩) hHeld ?_
   rotate_left 1
   ·(intro w hSw;(try dsimp only at hSw);go_simp;try with_reducible rfl)
   try simp only[Act.put,zzA,zzB,zzC,zzD,zzE,zzF]
   refine wpAnyL_take (i:=10) (v:=?_) rfl (by kernel_rfl) (by kernel_rfl) (by kernel_rfl) (by kernel_rfl) (fun _ _ _ h=>h) (Or.inl ⟨by rfl,?_⟩) hHeld ?_
   rotate_left 1
   ·(intro w hSw;(try dsimp only at hSw);go_simp;try with_reducible rfl)
   try simp only[Act.put,zzA,zzB,zzC,zzD,zzE,zzF]
   refine wpAnyL_last (by kernel_rfl) rfl (by kernel_rfl) (fun K hK=>?_)
   clear hHeld
   have hc7:=HB2.out.cell
   have hz7:=HB2.out.frozen
   go_simp
   refine hK.out _ _ ?_
   clear hK K
   refine NoPanic.normal ?_
   obtain⟨y3,hy3⟩:∃y3,y3=(y2.setCell ⟨bb,4,none⟩ (.slice va vn vc)):=⟨_,rfl⟩
   rw[←hy3]
   have HY3:=hide hy3
   clear hy3
   have hhalf:=halfc (v1:=.slice va vn vc) (HK4.out.G HG3.out).q ((G.refl y1).alloc (.cells #[sv (xa,xn,xc)] 95)) HC12.out (G.refl _)
   have HB3:Hid (Blk y3 bb 31 [a3.v,a3.u,b3.v,b3.u,.slice va vn vc,c1.u,I n1,I n2,I n3]):=by rw[HY3.out];exact hhalf.2.1
   have HRU:Hid (y3.ownsRow lo 95 1 c1.u c1.ws.length (c1.ws.map sv)):=by rw[HY3.out];exact hhalf.2.2.1
   clear hhalf
   have hch3:Chg (BB bb a3 b3 c1) q3 (y2.setCell ⟨bb,4,none⟩ (.slice va vn vc)):=((HG3.out.alloc (.cells #[sv (xa,xn,xc)] 95)).chg.trans (HC12.out.mono (fun z e=>.inr (.inr (.inr (.inl e)))))).trans (chg_setCell (F:=fun z=>BB bb a3 b3 c1 z) y2 _ (.inl (.inl rfl)))
   have HCH3:Hid (Chg (BB bb a b c) w1 y3):=by rw[HY3.out];exact HK4.out.ch.more hch3 (fun z hz e=>(HK4.out.nw z e).resolve_right (by omega))
   clear hch3
   obtain⟨-,-,K2⟩:=waits_exp (HPQ.out _ HCH3.out) HCL.out HC.out HL.out
   rw[←HL0.out] at K2
   have KB:=hide K2
   clear K2 KA
   try go_wp2_with fail
   refine wp_region_noPanic ?_
   refine wp_region_L (S:=(fun U=>∀o,U.cell? ⟨bb,o,none⟩=([a3.v,a3.u,b3.v,b3.u,.slice va vn vc,c1.u,I n1,I n2,I n3]:List Value)[o]?)) 11 (by kernel_rfl) (HB3.out.drew.cell) (fun hHeld=>?_)
   refine wpAnyL_take (i:=0) (v:=?_) rfl (by kernel_rfl) (by kernel_rfl) (by kernel_rfl) (by kernel_rfl) (fun _ _ _ h=>h) (Or.inl ⟨by rfl,?_⟩) hHeld ?_
   rotate_left 1
   ·(intro w hSw;have c0:=hSw;go_simp;try with_reducible rfl)
   try simp only[Act.put,zzA,zzB,zzD,zzE,zzF]
   refine wpAnyL_take (i:=1) (v:=?_) rfl (by kernel_rfl) (by kernel_rfl) (by kernel_rfl) (by kernel_rfl) (fun _ _ _ h=>h) (Or.inl ⟨by rfl,?_⟩) hHeld ?_
   rotate_left 1
   ·(intro w hSw;have c0:=hSw;go_simp;try with_reducible rfl)
   try simp only[Act.put,zzA,zzB,zzC,zzD,zzE,zzF]
   refine wpAnyL_take (i:=2) (v:=?_) rfl (by kernel_rfl) (by kernel_rfl) (by kernel_rfl) (by kernel_rfl) (fun _ _ _ h=>h) (Or.inl ⟨by rfl,?_⟩) hHeld ?_
   rotate_left 1
   ·(intro w hSw;have c0:=hSw;go_simp;try with_reducible rfl)
   try simp only[Act.put,zzA,zzB,zzC,zzD,zzE,zzF]
   refine wpAnyL_take (i:=3) (v:=?_) rfl (by kernel_rfl) (by kernel_rfl) (by kernel_rfl) (by kernel_rfl) (fun _ _ _ h=>h) (Or.inl ⟨by rfl,?_⟩) hHeld ?_
   rotate_left 1
   ·(intro w hSw;have c0:=hSw;go_simp;try with_reducible rfl)
   try simp only[Act.put,zzA,zzB,zzC,zzD,zzE,zzF]
   refine wpAnyL_take (i:=4) (v:=?_) rfl (by kernel_rfl) (by kernel_rfl) (by kernel_rfl) (by kernel_rfl) (fun _ _ _ h=>h) (Or.inl ⟨by rfl,?_⟩) hHeld ?_
   rotate_left 1
   ·(intro w hSw;have c0:=hSw;go_simp;try with_reducible rfl)
   try simp only[Act.put,zzA,zzB,zzC,zzD,zzE,zzF]
   refine wpAnyL_take (i:=5) (v:=?_) rfl (by kernel_rfl) (by kernel_rfl) (by kernel_rfl) (by kernel_rfl) (fun _ _ _ h=>h) (Or.inl ⟨by rfl,?_⟩) hHeld ?_
   rotate_left 1
   ·(intro w hSw;have c0:=hSw;go_simp;try with_reducible rfl)
   try simp only[Act.put,zzA,zzB,zzC,zzD,zzE,zzF]
   refine wpAnyL_one (i:=6) (by kernel_rfl) rfl (by kernel_rfl) (fun K hK=>?_)
   clear hHeld
   go_simp
   (with_reducible refine(KB.out _ (G.refl y3).drew).mono ?_)
   rintro e y4 ⟨u3,rfl,o3,g3⟩
   have HG4:Hid (G y3 y4):=(G.refl y3).drew.trans g3
   obtain⟨⟨ya,yn,yc⟩,hu3,hyn⟩:=own_sv o3
   dsimp only at hyn
   have HO4:Hid (y4.ownsRow 0 101 5 (sv (ya,yn,yc)) xn (gc l)):=by rw[←hu3,HXN.out];exact own_low o3 (Nat.zero_le _)
   have HYN:Hid (yn=xn):=hyn.trans HXN.out.symm
   obtain⟨u1,y5,r1,k1,c12,o1⟩:=app_svc y4 lo c1.u c1.ws (ya,yn,yc) (own_G HRU.out HG4.out) (show c1.ws.length<1000000000 by rw[←HK4.out.q.kw.2.2.len];have:=HLL.out;omega) (Nat.le_trans (Nat.le_trans HLO.out HG1.out.size) (Nat.le_trans HCH3.out.size HG4.out.size))
   obtain⟨⟨ua,un,uc⟩,hv1,-⟩:=own_sv k1
   have HG34:Hid (G (y2.setCell ⟨bb,4,none⟩ (.slice va vn vc)) (y4.alloc (.cells #[sv (ya,yn,yc)] 95))):=by rw[Hid,←HY3.out];exact HG4.out.alloc _
   have HB5:Hid (Blk y5 bb 31 [a3.v,a3.u,b3.v,b3.u,.slice va vn vc,c1.u,I n1,I n2,I n3]):=(halfc (v1:=.slice va vn vc) (HK4.out.G HG3.out).q ((G.refl y1).alloc (.cells #[sv (xa,xn,xc)] 95)) HC12.out HG34.out).2.2.2 y5 c12
   subst hv1
   have HK2:=hide k1;have HC45:=hide c12;have HO2:=hide o1
   simp only[sv] at hu3 r1
   subst hu3
   have HR2:=hide r1
   clear o3 g3 hyn r1 k1 c12 o1
   refine hK.out _ _ ((HB3.out.G HG4.out).cell) (fun hHeld=>?_)
   clear hK K
   try simp only[Act.put,zzA,zzB,zzC,zzD,zzE,zzF]
   refine wpAnyL_one (i:=7) (by kernel_rfl) rfl (by kernel_rfl) (fun K hK=>?_)
   clear hHeld
   go_simp
   refine hK.out _ _ (((HB3.out.G HG4.out).G ((G.refl y4).alloc _)).cell) (fun hHeld=>?_)
   clear hK K
   try simp only[Act.put,zzA,zzB,zzC,zzD,zzE,zzF]
   refine wpAnyL_one (i:=8) (by kernel_rfl) rfl (by kernel_rfl) (fun K hK=>?_)
   clear hHeld
   refine(if_pos rfl).mpr ?_
   refine wp_of_exec (exec_append _ _ 29 rfl c1.u (.slice (some ⟨y4.heap.size,0,none⟩) 1 1) rfl rfl 29 rfl HR2.out) ?_
   refine hK.out _ _ (HB5.out.cell) (fun hHeld=>?_)
   clear hK K
   try simp only[Act.put,zzA,zzB,zzC,zzD,zzE,zzF]
   refine wpAnyL_take2 10 (i:=9) (v:=?_) rfl (by kernel_rfl) (by kernel_rfl) (by kernel_rfl) (by kernel_rfl) (fun _ _ _ h=>h) (Or.inl ⟨by rfl,?_⟩) hHeld ?_
   rotate_left 1
   ·(intro w hSw;(try dsimp only at hSw);go_simp;try with_reducible rfl)
   try simp only[Act.put,zzA,zzB,zzC,zzD,zzE,zzF]
   refine wpAnyL_take (i:=10) (v:=?_) rfl (by kernel_rfl) (by kernel_rfl) (by kernel_rfl) (by kernel_rfl) (fun _ _ _ h=>h) (Or.inl ⟨by rfl,?_⟩) hHeld ?_
   rotate_left 1
   ·(intro w hSw;(try dsimp only at hSw);go_simp;try with_reducible rfl)
   try simp only[Act.put,zzA,zzB,zzC,zzD,zzE,zzF]
   refine wpAnyL_last (by kernel_rfl) rfl (by kernel_rfl) (fun K hK=>?_)
   clear hHeld
   have hc7:=HB5.out.cell
   have hz7:=HB5.out.frozen
   go_simp
   refine hK.out _ _ ?_
   clear hK K
   refine NoPanic.normal ?_
   have hpu:=pushc (y:=(ya,yn,yc)) (v1:=.slice va vn vc) (u1:=.slice ua un uc) HK4.out.q (HG3.out.alloc (.cells #[sv (xa,xn,xc)] 95)) (own_G (own_low HO3.out (Nat.le_trans (Nat.le_trans HLO.out HG1.out.size) HK4.out.ch.size)) ((G.refl y1).alloc (.cells #[sv (xa,xn,xc)] 95))) (fun z hz hh=>by
    have h1:=(World.ownsRow.lt HO3.out z hz).1
    have h2:=HK4.out.q.bk.lt (.inr (.inr (.inr hh)):BB bb a3 b3 c1 z)
    omega) HK1.out HC12.out HO1.out HG34.out (own_G HO4.out ((G.refl y4).alloc (.cells #[sv (ya,yn,yc)] 95))) HYN.out ⟨l,HXN.out.symm,by show xn<_;rw[HXN.out];exact HIL.out,rfl⟩ HK2.out HC45.out HO2.out
   have hfin:=HK4.out.pushc hpu (fun z hz=>Nat.le_trans HK4.out.ch.size (World.ownsRow.lt HO3.out z hz).1)
   obtain⟨⟨c2,hk,he⟩,hs⟩:=hfin
   have HKL:=hide hk;have HEL:=hide he
   have HXL:=hide ((hs _ _).2 HX4.out)
   clear hk he hs hpu
   go_wp2_with fail
   first|exact⟨⟨1,a3,b3,c2,by omega,rfl,HKL.out,⟨by rw[HE1.out,HE0.out,HLEN.out.1],by rw[HE3.out,HE2.out,HLEN.out.2.1],by rw[HEL.out,HLEN.out.2.2]⟩,HXL.out⟩,by decide⟩|exact⟨⟨2,a3,b3,c2,by omega,rfl,HKL.out,⟨by rw[HE1.out,HE0.out,HLEN.out.1],by rw[HE3.out,HE2.out,HLEN.out.2.1],by rw[HEL.out,HLEN.out.2.2]⟩,HXL.out⟩,by decide⟩|exact⟨⟨3,a3,b3,c2,by omega,rfl,HKL.out,⟨by rw[HE1.out,HE0.out,HLEN.out.1],by rw[HE3.out,HE2.out,HLEN.out.2.1],by rw[HEL.out,HLEN.out.2.2]⟩,HXL.out⟩,by decide⟩
end
end Go.Proofs.YtadfaiciolfgjaaGreatDoor
