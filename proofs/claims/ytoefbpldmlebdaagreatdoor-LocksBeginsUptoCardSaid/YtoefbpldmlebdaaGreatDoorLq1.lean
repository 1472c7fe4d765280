import Derived.Test.YtoefbpldmlebdaaGreatDoorLr7
namespace Go.Proofs.YtoefbpldmlebdaaGreatDoor
open Go.Proofs.Tryz
set_option maxHeartbeats 1000000
set_option maxRecDepth 100000
section
open Go.RowKit
theorem own_setK{W:World}{z e k n g cap j:Nat}{xs:List Value}{x:Value}(h:W.ownsRow z e k (.slice (some ⟨g,0,none⟩) n cap) n xs):(W.setCell ⟨g,j,none⟩ x).ownsRow z e k (.slice (some ⟨g,0,none⟩) n cap) n (xs.set j x):=by
 obtain⟨hl,h2⟩:=h
 refine⟨by rw[List.length_set];exact hl,?_⟩
 rcases h2 with ⟨h0,_⟩|⟨g',cap',cur,hv,hb,hg,hc,hm,hs,ht⟩
 ·cases h0
 ·cases hv
  refine .inr ⟨g,cap,cur.setIfInBounds j x,rfl,hb,?_,hc,hm,by simpa using hs,?_⟩
  ·simp[World.setCell,Array.getElem?_modify,hg]
  ·rw[Array.toList_setIfInBounds,List.take_set,ht]
theorem own_frozen{W:World}{z e k n g cap j:Nat}{xs:List Value}(h:W.ownsRow z e k (.slice (some ⟨g,0,none⟩) n cap) n xs):W.frozen? ⟨g,j,none⟩=false:=by
 rcases h.2 with ⟨h0,_⟩|⟨g',cap',cur,hv,hb,hg,_⟩
 ·cases h0
 ·cases hv
  simp[World.frozen?,hg]
theorem flat_set{α:Type}(f:α→List Value)(k:Nat)(hf:∀a,(f a).length=k):∀(l:List α) (n:Nat) (a a':α) (j:Nat) (v:Value),l[n]?=some a→j<k→f a'=(f a).set j v→(l.flatMap f).set (n*k+j) v=(l.set n a').flatMap f
 | [],n,a,a',j,v,h,_,_=>by simp at h
 | c::l,0,a,a',j,v,h,hj,he=>by
  simp at h
  subst h
  show(f c++l.flatMap f).set (0*k+j) v=f a'++l.flatMap f
  rw[Nat.zero_mul,Nat.zero_add,List.set_append,if_pos (by rw[hf];exact hj),he]
 | c::l,n+1,a,a',j,v,h,hj,he=>by
  have h1:=flat_set f k hf l n a a' j v (by simpa using h) hj he
  show(f c++l.flatMap f).set ((n+1)*k+j) v=f c++(l.set n a').flatMap f
  have e:(n+1)*k+j=k+(n*k+j):=by rw[Nat.succ_mul];omega
  rw[e,List.set_append,hf,if_neg (by omega),Nat.add_sub_cancel_left,h1]
theorem lkc_app(a b:List Lk):lkc (a++b)=lkc a++lkc b:=by simp[lkc]
theorem txc_app(a b:List (Tx×Value)):txc (a++b)=txc a++txc b:=by simp[txc]
theorem lkc_one{l:List Lk}:∀u∈lkc l,u.oneCell'=true:=fun u hu=>by
 obtain⟨a,-,ha⟩:=List.mem_flatMap.1 hu
 simp[Lk.cs] at ha
 rcases ha with rfl|rfl|rfl|rfl|rfl|rfl<;>rfl
theorem app_lk(w:World)(lo:Nat)(u:Value)(l ns:List Lk)(hu:w.ownsRow lo 107 6 u l.length (lkc l))(a:Addr)(m c:Nat)(hm:m=ns.length)(hc:∀j u,(lkc ns)[j]?=some u→w.cell? (a.add j)=some u)(hl:l.length+ns.length<2000000000000)(hlo:lo≤w.heap.size) :
  ∃v' w',(Builtin.append_ #[103,103] 103 #[u,.slice (some a) m c]).run prog w=.ok v' w'∧w'.ownsRow lo 107 6 v' (l++ns).length (lkc (l++ns))∧w.grownBy w' u.ownBlock∧(v'.ownBlock=u.ownBlock∨v'.ownBlock=some w.heap.size):=by
 obtain⟨i0,hi,hz0,hz1,hz2⟩:=info_parts (show(prog.info? 107).map (fun i=>(i.zero,i.size,i.bytes))=some (some (.agg #[.int .i64 0,.int .i64 0,.string ByteArray.empty,.int .i64 0,.int .i64 0,.bool false]),6,56)from by kernel_rfl)
 have hmx:(2000000000000:Nat)≤maxLen:=of_decide_eq_true (by kernel_rfl)
 obtain⟨v',w9,q1,q2,q3,-,q5⟩:=run_append_own_at (P:=prog) (w:=w) lo 103 103 107 i0 _ 6 56 underlying103 hi hz0 hz1 hz2 rfl (by decide) u _ _ hu a m c (lkc ns) (by rw[hm];exact flat_len Lk.cs 6 lk_len ns) hc lkc_one (by omega) (by omega) hlo
 refine⟨v',w9,q1,?_,q3,q5⟩
 rw[lkc_app,List.length_append,←hm]
 exact q2
theorem app_lk0(w:World)(lo:Nat)(u:Value)(l:List Lk)(hu:w.ownsRow lo 107 6 u l.length (lkc l)):(Builtin.append_ #[103,103] 103 #[u,.slice none 0 0]).run prog w=.ok u w:=by
 obtain⟨i0,hi,hz0,hz1,hz2⟩:=info_parts (show(prog.info? 107).map (fun i=>(i.zero,i.size,i.bytes))=some (some (.agg #[.int .i64 0,.int .i64 0,.string ByteArray.empty,.int .i64 0,.int .i64 0,.bool false]),6,56)from by kernel_rfl)
 exact run_append_owned_none w lo 103 103 107 i0 6 underlying103 hi u _ _ hu
theorem app_tx(w:World)(lo:Nat)(u:Value)(l ns:List (Tx×Value))(hu:w.ownsRow lo 111 3 u l.length (txc l))(a:Addr)(m c:Nat)(hm:m=ns.length)(hc:∀j u,(txc ns)[j]?=some u→w.cell? (a.add j)=some u)(h1:∀u∈txc ns,u.oneCell'=true)(hl:l.length+ns.length<2000000000000)(hlo:lo≤w.heap.size) :
  ∃v' w',(Builtin.append_ #[102,102] 102 #[u,.slice (some a) m c]).run prog w=.ok v' w'∧w'.ownsRow lo 111 3 v' (l++ns).length (txc (l++ns))∧w.grownBy w' u.ownBlock∧(v'.ownBlock=u.ownBlock∨v'.ownBlock=some w.heap.size):=by
 obtain⟨i0,hi,hz0,hz1,hz2⟩:=info_parts (show(prog.info? 111).map (fun i=>(i.zero,i.size,i.bytes))=some (some (.agg #[.int .i64 0,.int .i64 0,.slice none 0 0]),3,40)from by kernel_rfl)
 have hmx:(2000000000000:Nat)≤maxLen:=of_decide_eq_true (by kernel_rfl)
 obtain⟨v',w9,q1,q2,q3,-,q5⟩:=run_append_own_at (P:=prog) (w:=w) lo 102 102 111 i0 _ 3 40 underlying102 hi hz0 hz1 hz2 rfl (by decide) u _ _ hu a m c (txc ns) (by rw[hm];exact flat_len txC 3 tx_len ns) hc h1 (by omega) (by omega) hlo
 refine⟨v',w9,q1,?_,q3,q5⟩
 rw[txc_app,List.length_append,←hm]
 exact q2
def Rst(w:World)(D:Nat→Prop)(b:Nat)(R':Rt)(w':World):Prop:=∃D':Nat→Prop,RT w' b R' D'∧Chg D w w'∧∀k,D' k→D k∨w.heap.size≤k
theorem Rst.of_G{w w':World}{b:Nat}{R:Rt}{D:Nat→Prop}(h:RT w b R D)(g:G w w'):Rst w D b R w':=⟨D,h.G g,g.chg,fun _ hk=>.inl hk⟩
section
variable {w w2:World} {b:Nat} {R:Rt} {D:Nat→Prop} {vt vh va v9:Value} {tv:List (Tx×Value)}
theorem RV.ends(_h:RV w b R D vt vh va tv){w':World}{D':Nat→Prop}{R':Rt}{vt' vh' va':Value}{tv':List (Tx×Value)}(h':RV w' b R' D' vt' vh' va' tv')(c:Chg D w w')(hd:∀k,D' k→D k∨w.heap.size≤k):Rst w D b R' w':=⟨D',⟨_,_,_,_,h'⟩,c,hd⟩
theorem RV.putA(h:RV w b R D vt vh va tv)(c:Chg (fun k=>va.ownBlock=some k) w w2){aq:List Lk}(hv:w2.ownsRow 0 107 6 v9 aq.length (lkc aq))(ho:∀k,v9.ownBlock=some k→va.ownBlock=some k∨w.heap.size≤k) :
  RV (w2.setCell ⟨b,2,none⟩ v9) b ⟨R.tx,R.hd,aq⟩ (fun k=>D k∨v9.ownBlock=some k) vt vh v9 tv∧Chg D w (w2.setCell ⟨b,2,none⟩ v9)∧∀k,(D k∨v9.ownBlock=some k)→D k∨w.heap.size≤k:=by
 have hnb:¬va.ownBlock=some b:=own_ne h.ra h.blk (by decide)
 have hb2:=h.blk.chg c hnb
 have c2:Chg (fun k=>k=b) w2 (w2.setCell ⟨b,2,none⟩ v9):=chg_setCell w2 v9 (.inl rfl)
 have hnew:∀k,(D k∨v9.ownBlock=some k)→D k∨w.heap.size≤k:=fun k hk=>by
  rcases hk with hk|hk
  ·exact .inl hk
  ·rcases ho k hk with hk|hk
   ·exact .inl (h.da k hk)
   ·exact .inr hk
 refine⟨⟨h.tm,hb2.set 2 v9,own_chg (own_chg h.rt c (fun k hk e=>own_apart h.rt h.ra (by decide) k hk e)) c2 (fun k hk e=>own_ne h.rt h.blk (by decide) (e▸hk)),own_chg (own_chg h.rh c (fun k hk e=>h.sp k hk e)) c2 (fun k hk e=>own_ne h.rh h.blk (by decide) (e▸hk)),own_chg hv c2 (fun k hk e=>own_ne hv hb2 (by decide) (e▸hk)),fun e he=>own_chg (own_chg (h.rw_ e he) c (fun k hk e2=>own_apart (h.rw_ e he) h.ra (by decide) k hk e2)) c2 (fun k hk e2=>own_ne (h.rw_ e he) h.blk (by decide) (e2▸hk)),.inl h.db,fun k hk=>.inl (h.dt k hk),fun k hk=>.inl (h.dh k hk),fun k hk=>.inr hk,fun e he k hk=>.inl (h.dw e he k hk),fun k hk e=>?_,fun k hk=>?_⟩,?_,hnew⟩
 ·rcases ho k e with e2|e2
  ·exact h.sp k hk e2
  ·have:=own_lt h.rh hk;omega
 ·have hs:(w2.setCell ⟨b,2,none⟩ v9).heap.size=w2.heap.size:=World.size_setCell _ _ _
  rw[hs]
  rcases hk with hk|hk
  ·exact Nat.lt_of_lt_of_le (h.dl k hk) c.size
  ·exact own_lt hv hk
 ·exact(c.mono (fun k hk=>h.da k hk)).trans (c2.mono (fun k hk=>hk▸h.db))
theorem RV.putH(h:RV w b R D vt vh va tv)(c:Chg (fun k=>vh.ownBlock=some k) w w2){hd:List Lk}(hv:w2.ownsRow 0 107 6 v9 hd.length (lkc hd))(ho:∀k,v9.ownBlock=some k→vh.ownBlock=some k∨w.heap.size≤k) :
  RV (w2.setCell ⟨b,1,none⟩ v9) b ⟨R.tx,hd,R.aq⟩ (fun k=>D k∨v9.ownBlock=some k) vt v9 va tv∧Chg D w (w2.setCell ⟨b,1,none⟩ v9)∧∀k,(D k∨v9.ownBlock=some k)→D k∨w.heap.size≤k:=by
 have hnb:¬vh.ownBlock=some b:=own_ne h.rh h.blk (by decide)
 have hb2:=h.blk.chg c hnb
 have c2:Chg (fun k=>k=b) w2 (w2.setCell ⟨b,1,none⟩ v9):=chg_setCell w2 v9 (.inl rfl)
 have hnew:∀k,(D k∨v9.ownBlock=some k)→D k∨w.heap.size≤k:=fun k hk=>by
  rcases hk with hk|hk
  ·exact .inl hk
  ·rcases ho k hk with hk|hk
   ·exact .inl (h.dh k hk)
   ·exact .inr hk
 refine⟨⟨h.tm,hb2.set 1 v9,own_chg (own_chg h.rt c (fun k hk e=>own_apart h.rt h.rh (by decide) k hk e)) c2 (fun k hk e=>own_ne h.rt h.blk (by decide) (e▸hk)),own_chg hv c2 (fun k hk e=>own_ne hv hb2 (by decide) (e▸hk)),own_chg (own_chg h.ra c (fun k hk e=>h.sp k e hk)) c2 (fun k hk e=>own_ne h.ra h.blk (by decide) (e▸hk)),fun e he=>own_chg (own_chg (h.rw_ e he) c (fun k hk e2=>own_apart (h.rw_ e he) h.rh (by decide) k hk e2)) c2 (fun k hk e2=>own_ne (h.rw_ e he) h.blk (by decide) (e2▸hk)),.inl h.db,fun k hk=>.inl (h.dt k hk),fun k hk=>.inr hk,fun k hk=>.inl (h.da k hk),fun e he k hk=>.inl (h.dw e he k hk),fun k hk e=>?_,fun k hk=>?_⟩,?_,hnew⟩
 ·rcases ho k hk with e2|e2
  ·exact h.sp k e2 e
  ·have:=own_lt h.ra e;omega
 ·have hs:(w2.setCell ⟨b,1,none⟩ v9).heap.size=w2.heap.size:=World.size_setCell _ _ _
  rw[hs]
  rcases hk with hk|hk
  ·exact Nat.lt_of_lt_of_le (h.dl k hk) c.size
  ·exact own_lt hv hk
 ·exact(c.mono (fun k hk=>h.dh k hk)).trans (c2.mono (fun k hk=>hk▸h.db))
theorem RV.putT(h:RV w b R D vt vh va tv)(c:Chg (fun k=>vt.ownBlock=some k) w w2){tv':List (Tx×Value)}(hv:w2.ownsRow 0 111 3 v9 tv'.length (txc tv'))(ho:∀k,v9.ownBlock=some k→vt.ownBlock=some k∨w.heap.size≤k)
  (hw:∀e∈tv',e∈tv∨(e.1.ws=[]∧e.2=.slice none 0 0)) :
  RV (w2.setCell ⟨b,0,none⟩ v9) b ⟨tv'.map Prod.fst,R.hd,R.aq⟩ (fun k=>D k∨v9.ownBlock=some k) v9 vh va tv'∧Chg D w (w2.setCell ⟨b,0,none⟩ v9)∧∀k,(D k∨v9.ownBlock=some k)→D k∨w.heap.size≤k:=by
 have hnb:¬vt.ownBlock=some b:=own_ne h.rt h.blk (by decide)
 have hb2:=h.blk.chg c hnb
 have c2:Chg (fun k=>k=b) w2 (w2.setCell ⟨b,0,none⟩ v9):=chg_setCell w2 v9 (.inl rfl)
 have hnew:∀k,(D k∨v9.ownBlock=some k)→D k∨w.heap.size≤k:=fun k hk=>by
  rcases hk with hk|hk
  ·exact .inl hk
  ·rcases ho k hk with hk|hk
   ·exact .inl (h.dt k hk)
   ·exact .inr hk
 refine⟨⟨rfl,hb2.set 0 v9,own_chg hv c2 (fun k hk e=>own_ne hv hb2 (by decide) (e▸hk)),own_chg (own_chg h.rh c (fun k hk e=>own_apart h.rh h.rt (by decide) k hk e)) c2 (fun k hk e=>own_ne h.rh h.blk (by decide) (e▸hk)),own_chg (own_chg h.ra c (fun k hk e=>own_apart h.ra h.rt (by decide) k hk e)) c2 (fun k hk e=>own_ne h.ra h.blk (by decide) (e▸hk)),fun e he=>?_,.inl h.db,fun k hk=>.inr hk,fun k hk=>.inl (h.dh k hk),fun k hk=>.inl (h.da k hk),fun e he k hk=>?_,h.sp,fun k hk=>?_⟩,?_,hnew⟩
 ·rcases hw e he with h1|⟨h1,h2⟩
  ·exact own_chg (own_chg (h.rw_ e h1) c (fun k hk e2=>own_apart (h.rw_ e h1) h.rt (by decide) k hk e2)) c2 (fun k hk e2=>own_ne (h.rw_ e h1) h.blk (by decide) (e2▸hk))
  ·rw[h1,h2]
   exact⟨rfl,.inl ⟨rfl,rfl⟩⟩
 ·rcases hw e he with h1|⟨h1,h2⟩
  ·exact .inl (h.dw e h1 k hk)
  ·rw[h2] at hk;cases hk
 ·have hs:(w2.setCell ⟨b,0,none⟩ v9).heap.size=w2.heap.size:=World.size_setCell _ _ _
  rw[hs]
  rcases hk with hk|hk
  ·exact Nat.lt_of_lt_of_le (h.dl k hk) c.size
  ·exact own_lt hv hk
 ·exact(c.mono (fun k hk=>h.dt k hk)).trans (c2.mono (fun k hk=>hk▸h.db))
theorem RV.setH{gh cap:Nat}(h:RV w b R D vt (.slice (some ⟨gh,0,none⟩) R.hd.length cap) va tv){i:Nat}{e:Lk}(he:R.hd[i]?=some e)(c:Int) :
  RV (w.setCell ⟨gh,i*6+4,none⟩ (I c)) b ⟨R.tx,R.hd.set i {e with c:=c},R.aq⟩ D vt (.slice (some ⟨gh,0,none⟩) R.hd.length cap) va tv∧Chg D w (w.setCell ⟨gh,i*6+4,none⟩ (I c)):=by
 have c2:Chg (fun k=>k=gh) w (w.setCell ⟨gh,i*6+4,none⟩ (I c)):=chg_setCell w _ (.inl rfl)
 have hob:(Value.slice (some ⟨gh,0,none⟩) R.hd.length cap).ownBlock=some gh:=rfl
 have hrow:=own_setK (j:=i*6+4) (x:=I c) h.rh
 have he2:(lkc R.hd).set (i*6+4) (I c)=lkc (R.hd.set i {e with c:=c}):=flat_set Lk.cs 6 lk_len R.hd i e {e with c:=c} 4 (I c) he (by omega) rfl
 rw[he2] at hrow
 refine⟨⟨h.tm,h.blk.chg c2 (fun e2=>own_ne h.rh h.blk (by decide) (e2▸hob)),own_chg h.rt c2 (fun k hk e2=>own_apart h.rt h.rh (by decide) k hk (e2▸hob)),by rw[List.length_set];exact hrow,own_chg h.ra c2 (fun k hk e2=>h.sp k (e2▸hob) hk),fun a ha=>own_chg (h.rw_ a ha) c2 (fun k hk e2=>own_apart (h.rw_ a ha) h.rh (by decide) k hk (e2▸hob)),h.db,h.dt,h.dh,h.da,h.dw,h.sp,fun k hk=>?_⟩,c2.mono (fun k hk=>hk▸h.dh gh rfl)⟩
 have hs:(w.setCell ⟨gh,i*6+4,none⟩ (I c)).heap.size=w.heap.size:=World.size_setCell _ _ _
 rw[hs];exact h.dl k hk
theorem RV.setW{gt cap:Nat}(h:RV w b R D (.slice (some ⟨gt,0,none⟩) tv.length cap) vh va tv){w1:World}(g:Go.Proofs.YtoefbpldmlebdaaGreatDoor.G w w1){u:Nat}{e:Tx}{ev:Value}(he:tv[u]?=some (e,ev)){ws:List Int}(hv:w1.ownsRow w.heap.size 3 1 v9 ws.length (ws.map fun z=>I z)) :
  RV (w1.setCell ⟨gt,u*3+2,none⟩ v9) b ⟨R.tx.set u ⟨e.x,e.st,ws⟩,R.hd,R.aq⟩ (fun k=>D k∨v9.ownBlock=some k) (.slice (some ⟨gt,0,none⟩) tv.length cap) vh va (tv.set u (⟨e.x,e.st,ws⟩,v9))∧Chg D w (w1.setCell ⟨gt,u*3+2,none⟩ v9)∧∀k,(D k∨v9.ownBlock=some k)→D k∨w.heap.size≤k:=by
 have h1:=h.G g
 have c2:Chg (fun k=>k=gt) w1 (w1.setCell ⟨gt,u*3+2,none⟩ v9):=chg_setCell w1 _ (.inl rfl)
 have hob:(Value.slice (some ⟨gt,0,none⟩) tv.length cap).ownBlock=some gt:=rfl
 have hrow:=own_setK (j:=u*3+2) (x:=v9) h1.rt
 have he2:(txc tv).set (u*3+2) v9=txc (tv.set u (⟨e.x,e.st,ws⟩,v9)):=flat_set txC 3 tx_len tv u (e,ev) (⟨e.x,e.st,ws⟩,v9) 2 v9 he (by omega) rfl
 rw[he2] at hrow
 have hnew:∀k,(D k∨v9.ownBlock=some k)→D k∨w.heap.size≤k:=fun k hk=>by
  rcases hk with hk|hk
  ·exact .inl hk
  ·exact .inr (World.ownsRow.lt hv k hk).1
 have hs:(w1.setCell ⟨gt,u*3+2,none⟩ v9).heap.size=w1.heap.size:=World.size_setCell _ _ _
 have hset:∀a∈tv.set u (⟨e.x,e.st,ws⟩,v9),a∈tv∨a=(⟨e.x,e.st,ws⟩,v9):=fun a ha=>List.mem_or_eq_of_mem_set ha
 refine⟨⟨by rw[List.map_set,h.tm],h1.blk.chg c2 (fun e2=>own_ne h1.rt h1.blk (by decide) (e2▸hob)),by rw[List.length_set];exact hrow,own_chg h1.rh c2 (fun k hk e2=>own_apart h1.rh h1.rt (by decide) k hk (e2▸hob)),own_chg h1.ra c2 (fun k hk e2=>own_apart h1.ra h1.rt (by decide) k hk (e2▸hob)),fun a ha=>?_,.inl h.db,fun k hk=>.inl (h.dt k hk),fun k hk=>.inl (h.dh k hk),fun k hk=>.inl (h.da k hk),fun a ha k hk=>?_,h.sp,fun k hk=>?_⟩,(g.chg.mono (fun k hk=>hk)).trans (c2.mono (fun k hk=>hk▸h.dt gt rfl)),hnew⟩
 ·rcases hset a ha with ha|rfl
  ·exact own_chg (h1.rw_ a ha) c2 (fun k hk e2=>own_apart (h1.rw_ a ha) h1.rt (by decide) k hk (e2▸hob))
  ·exact own_chg (own_lo hv (Nat.zero_le _)) c2 (fun k hk e2=>own_apart hv h1.rt (by decide) k hk (e2▸hob))
 ·rcases hset a ha with ha|rfl
  ·exact .inl (h.dw a ha k hk)
  ·exact .inr hk
 ·rw[hs]
  rcases hk with hk|hk
  ·exact Nat.lt_of_lt_of_le (h.dl k hk) g.size
  ·exact own_lt hv hk
end
end
section
open Go.RowKit
def queP(r:Rs)(l:List Lk):List (Int×Int):=(l.filter fun e=>decide (e.r=r)).map fun e=>(e.x,e.c)
theorem queP_snoc(r:Rs)(l:List Lk)(e:Lk):queP r (l++[e])=if e.r=r then queP r l++[(e.x,e.c)] else queP r l:=by
 unfold queP
 rw[List.filter_append,List.map_append]
 by_cases h:e.r=r
 ·rw[if_pos h];simp[h]
 ·rw[if_neg h];simp[h]
theorem queP_len(r:Rs)(l:List Lk):(queP r l).length≤l.length:=by
 unfold queP
 rw[List.length_map]
 exact List.length_filter_le _ _
theorem queue_r{w:World}{b:Nat}{R:Rt}{D:Nat→Prop}{vt vh va:Value}{tv:List (Tx×Value)}(h:RV w b R D vt vh va tv)(r:Rs)(hr:resB r=true)(hl:R.aq.length<400000000000):Calls prog 30 #[ptr b,.agg #[I r.lv,.string r.lb,I r.id]] w fun e w'=>∃v,e=.returned v∧w'.ownsRow w.heap.size 77 2 v (queP r R.aq).length (qc (queP r R.aq))∧G w w':=by
 obtain⟨ra,rcap,rfl⟩:=row_form h.ra
 have KR:=hide (res_r r (w.alloc (.cells #[I r.lv,.string r.lb,I r.id] 27)))
 rw[hr] at KR
 have hc:=(Blk.new w [I r.lv,.string r.lb,I r.id] 27).cell
 have H:=hide h;have HLL:=hide hl
 clear h hl hr
 obtain⟨rl,rb,ri⟩:=r
 simp only at KR hc⊢
 go_enter func30,ntmps30
 go_wp2_with (first|(go_at_call 57;with_reducible refine(KR.out).mono ?_;rintro e w' ⟨rfl,rfl⟩)|fail)
 clear hc KR
 obtain⟨w1,hw1⟩:∃w1,w1=(w.alloc (.cells #[I rl,.string rb,I ri] 27)).alloc (.cells #[I rl,.string rb,I ri] 27):=⟨_,rfl⟩
 rw[←hw1]
 have H1:Hid (Blk w1 w.heap.size 27 [I rl,.string rb,I ri]∧G w w1):=by rw[hw1];exact⟨(Blk.new w [I rl,.string rb,I ri] 27).G ((G.refl _).alloc _),((G.refl w).alloc _).alloc _⟩
 clear hw1
 go_loopw [5,6] (fun ov iv wr=>∃n:Nat,n≤R.aq.length∧iv=I (n:Int)∧wr.ownsRow w1.heap.size 77 2 ov (queP ⟨rl,rb,ri⟩ (R.aq.take n)).length (qc (queP ⟨rl,rb,ri⟩ (R.aq.take n)))∧G w1 wr) (fun _ iv _=>R.aq.length-(RowKit.intOf iv).toNat)
 case atStart=>exact⟨0,Nat.zero_le _,rfl,⟨rfl,.inl ⟨rfl,rfl⟩⟩,G.refl _⟩
 case round=>
  obtain⟨n,hn,rfl,how,hgw⟩:=hrel
  have hll:=HLL.out
  have hR:=H.out.G (H1.out.2.trans hgw)
  have hbc:=hR.blk.cell
  by_cases hlt:n<R.aq.length
  ·obtain⟨⟨ex,⟨el,eb,ei⟩,ec,eu⟩,he⟩:∃a,R.aq[n]?=some a:=⟨_,List.getElem?_eq_getElem hlt⟩
   obtain⟨ga,hga,kc⟩:=row_cell lk_len hR.ra he
   subst hga
   have q1:wr.cell? ⟨ga,n*6+1,none⟩=some (I el):=kc 1 (by omega)
   have q2:wr.cell? ⟨ga,n*6+1+1,none⟩=some (.string eb):=kc 2 (by omega)
   have q3:wr.cell? ⟨ga,n*6+1+2,none⟩=some (I ei):=kc 3 (by omega)
   have q4:=(H1.out.1.G hgw).cell
   have hnI:(n:Int)<(R.aq.length:Int):=by omega
   have hn0:(0:Int)≤(n:Int):=by omega
   have hwn:wrap64 ((n:Int)+1)=(n:Int)+1:=by unfold wrap64;omega
   have hst:=queP_snoc ⟨rl,rb,ri⟩ (R.aq.take n) ⟨ex,⟨el,eb,ei⟩,ec,eu⟩
   rw[←take_lk he] at hst
   have HWN:=hide hwn;have HLT:=hide hlt;have HGW:=hide hgw;have HOW:=hide how;have HE:=hide he
   clear hn hlt he hwn kc hll hgw hR how
   by_cases f1:el=rl
   ·subst f1
    by_cases f2:eb=rb
    ·subst f2
     by_cases f3:ei=ri
     ·subst f3
      have HST:=hide hst
      rw[if_pos rfl] at HST
      clear hst
      go_wp2_with fail
      go_quiet (fail)
      generalize hV:World.drewN wr _=V
      have HGV:Hid (G wr V):=by rw[←hV];exact(G.refl wr).drewN _
      clear hV hbc q1 q2 q3 q4
      have HCC:Hid (∀U,G w U→(∀o,U.cell? ⟨b,o,none⟩=[vt,vh,.slice (some ⟨ga,0,none⟩) R.aq.length rcap][o]?)∧U.cell? ⟨ga,n*6,none⟩=some (I ex)∧U.cell? ⟨ga,n*6+4,none⟩=some (I ec)):=fun U hU=>by
       have hR:=H.out.G hU
       obtain⟨gb,hgb,kc⟩:=row_cell lk_len hR.ra HE.out
       have eg:ga=gb:=by simpa using hgb
       subst eg
       exact⟨hR.blk.cell,kc 0 (by omega),kc 4 (by omega)⟩
      have HGD:Hid (G w V):=H1.out.2.trans (HGW.out.trans HGV.out)
      obtain⟨v9,w9,r1,r2,r3⟩:=app_held V.drew w1.heap.size u5 _ ex ec (own_G HOW.out (HGV.out.trans (G.refl V).drew)) (by have:=HLL.out;have h1:=queP_len ⟨el,eb,ei⟩ (R.aq.take n);rw[List.length_take] at h1;omega) (HGW.out.trans HGV.out).size
      have HR2:=hide r2
      have HG9:Hid (G w1 w9):=grown_G (((HGW.out.trans HGV.out).drew).alloc _) r3 (fun k hk=>(World.ownsRow.lt HOW.out k hk).1)
      have HR9:Hid ((Builtin.append_ #[49,49] 49 #[u5,.slice (some ⟨V.heap.size,0,none⟩) 1 1]).run prog (V.alloc (.cells #[I ex,I ec] 77)).drew=.ok v9 w9):=r1
      clear r2 r3 r1
      go_wp2_with fail
      refine wp_region_noPanic ?_
      refine wp_region_held_drew (S:=(fun U=>G w U)) (by kernel_rfl) (HGD.out.drew) (fun hHeld=>?_)
      refine wpAnyH_take (i:=0) (v:=?_) rfl (by kernel_rfl) (by kernel_rfl) (by kernel_rfl) (fun _ _ _ h=>h) (Or.inl ⟨by rfl,?_⟩) hHeld ?_
      rotate_left 1
      ·(intro w hSw;obtain⟨q1,q2,q3⟩:=HCC.out _ hSw;go_simp;try with_reducible rfl)
      try simp only[Act.put,List.getElem_toArray,List.getElem_cons_zero,List.setIfInBounds_toArray,List.set_cons_zero,List.set_cons_succ]
      refine wpAnyH_take (i:=1) (v:=?_) rfl (by kernel_rfl) (by kernel_rfl) (by kernel_rfl) (fun _ _ _ h=>h) (Or.inl ⟨by rfl,?_⟩) hHeld ?_
      rotate_left 1
      ·(intro w hSw;obtain⟨q1,q2,q3⟩:=HCC.out _ hSw;go_simp;try with_reducible rfl)
      try simp only[Act.put,List.getElem_toArray,List.getElem_cons_zero,List.getElem_cons_succ,List.setIfInBounds_toArray,List.set_cons_zero,List.set_cons_succ]
      refine wpAnyH_take (i:=2) (v:=?_) rfl (by kernel_rfl) (by kernel_rfl) (by kernel_rfl) (fun _ _ _ h=>h) (Or.inl ⟨by rfl,?_⟩) hHeld ?_
      rotate_left 1
      ·(intro w hSw;obtain⟨q1,q2,q3⟩:=HCC.out _ hSw;go_simp;try with_reducible rfl)
      try simp only[Act.put,List.getElem_toArray,List.getElem_cons_zero,List.getElem_cons_succ,List.setIfInBounds_toArray,List.set_cons_zero,List.set_cons_succ]
      refine wpAnyH_take (i:=3) (v:=?_) rfl (by kernel_rfl) (by kernel_rfl) (by kernel_rfl) (fun _ _ _ h=>h) (Or.inl ⟨by rfl,?_⟩) hHeld ?_
      rotate_left 1
      ·(intro w hSw;obtain⟨q1,q2,q3⟩:=HCC.out _ hSw;go_simp;try with_reducible rfl)
      try simp only[Act.put,List.getElem_toArray,List.getElem_cons_zero,List.getElem_cons_succ,List.setIfInBounds_toArray,List.set_cons_zero,List.set_cons_succ]
      refine wpAnyH_take (i:=4) (v:=?_) rfl (by kernel_rfl) (by kernel_rfl) (by kernel_rfl) (fun _ _ _ h=>h) (Or.inl ⟨by rfl,?_⟩) hHeld ?_
      rotate_left 1
      ·(intro w hSw;obtain⟨q1,q2,q3⟩:=HCC.out _ hSw;go_simp;try with_reducible rfl)
      try simp only[Act.put,List.getElem_toArray,List.getElem_cons_zero,List.getElem_cons_succ,List.setIfInBounds_toArray,List.set_cons_zero,List.set_cons_succ]
      refine wpAnyH_take (i:=5) (v:=?_) rfl (by kernel_rfl) (by kernel_rfl) (by kernel_rfl) (fun _ _ _ h=>h) (Or.inl ⟨by rfl,?_⟩) hHeld ?_
      rotate_left 1
      ·(intro w hSw;obtain⟨q1,q2,q3⟩:=HCC.out _ hSw;go_simp;try with_reducible rfl)
      try simp only[Act.put,List.getElem_toArray,List.getElem_cons_zero,List.getElem_cons_succ,List.setIfInBounds_toArray,List.set_cons_zero,List.set_cons_succ]
      refine wpAnyH_take (i:=6) (v:=?_) rfl (by kernel_rfl) (by kernel_rfl) (by kernel_rfl) (fun _ _ _ h=>h) (Or.inl ⟨by rfl,?_⟩) hHeld ?_
      rotate_left 1
      ·(intro w hSw;obtain⟨q1,q2,q3⟩:=HCC.out _ hSw;go_simp;try with_reducible rfl)
      try simp only[Act.put,List.getElem_toArray,List.getElem_cons_zero,List.getElem_cons_succ,List.setIfInBounds_toArray,List.set_cons_zero,List.set_cons_succ]
      refine wpAnyH_take (i:=7) (v:=?_) rfl (by kernel_rfl) (by kernel_rfl) (by kernel_rfl) (fun _ _ _ h=>h) (Or.inl ⟨by rfl,?_⟩) hHeld ?_
      rotate_left 1
      ·(intro w hSw;obtain⟨q1,q2,q3⟩:=HCC.out _ hSw;go_simp;try with_reducible rfl)
      try simp only[Act.put,List.getElem_toArray,List.getElem_cons_zero,List.getElem_cons_succ,List.setIfInBounds_toArray,List.set_cons_zero,List.set_cons_succ]
      refine wpAnyH_take (i:=8) (v:=?_) rfl (by kernel_rfl) (by kernel_rfl) (by kernel_rfl) (fun _ _ _ h=>h) (Or.inl ⟨by rfl,?_⟩) hHeld ?_
      rotate_left 1
      ·(intro w hSw;obtain⟨q1,q2,q3⟩:=HCC.out _ hSw;go_simp;try with_reducible rfl)
      try simp only[Act.put,List.getElem_toArray,List.getElem_cons_zero,List.getElem_cons_succ,List.setIfInBounds_toArray,List.set_cons_zero,List.set_cons_succ]
      refine wpAnyH_take (i:=9) (v:=?_) rfl (by kernel_rfl) (by kernel_rfl) (by kernel_rfl) (fun _ _ _ h=>h) (Or.inl ⟨by rfl,?_⟩) hHeld ?_
      rotate_left 1
      ·(intro w hSw;obtain⟨q1,q2,q3⟩:=HCC.out _ hSw;go_simp;try with_reducible rfl)
      try simp only[Act.put,List.getElem_toArray,List.getElem_cons_zero,List.getElem_cons_succ,List.setIfInBounds_toArray,List.set_cons_zero,List.set_cons_succ]
      refine wpAnyH_take (i:=10) (v:=?_) rfl (by kernel_rfl) (by kernel_rfl) (by kernel_rfl) (fun _ _ _ h=>h) (Or.inl ⟨by rfl,?_⟩) hHeld ?_
      rotate_left 1
      ·(intro w hSw;obtain⟨q1,q2,q3⟩:=HCC.out _ hSw;go_simp;try with_reducible rfl)
      try simp only[Act.put,List.getElem_toArray,List.getElem_cons_zero,List.getElem_cons_succ,List.setIfInBounds_toArray,List.set_cons_zero,List.set_cons_succ]
      refine wpAnyH_take (i:=11) (v:=?_) rfl (by kernel_rfl) (by kernel_rfl) (by kernel_rfl) (fun _ _ _ h=>h) (Or.inl ⟨by rfl,?_⟩) hHeld ?_
      rotate_left 1
      ·(intro w hSw;obtain⟨q1,q2,q3⟩:=HCC.out _ hSw;go_simp;try with_reducible rfl)
      try simp only[Act.put,List.getElem_toArray,List.getElem_cons_zero,List.getElem_cons_succ,List.setIfInBounds_toArray,List.set_cons_zero,List.set_cons_succ]
      refine wpAnyH_take (i:=12) (v:=?_) rfl (by kernel_rfl) (by kernel_rfl) (by kernel_rfl) (fun _ _ _ h=>h) (Or.inl ⟨by rfl,?_⟩) hHeld ?_
      rotate_left 1
      ·(intro w hSw;obtain⟨q1,q2,q3⟩:=HCC.out _ hSw;go_simp;try with_reducible rfl)
      try simp only[Act.put,List.getElem_toArray,List.getElem_cons_zero,List.getElem_cons_succ,List.setIfInBounds_toArray,List.set_cons_zero,List.set_cons_succ]
      refine wpAnyH_take (i:=13) (v:=?_) rfl (by kernel_rfl) (by kernel_rfl) (by kernel_rfl) (fun _ _ _ h=>h) (Or.inl ⟨by rfl,?_⟩) hHeld ?_
      rotate_left 1
      ·(intro w hSw;obtain⟨q1,q2,q3⟩:=HCC.out _ hSw;go_simp;try with_reducible rfl)
      try simp only[Act.put,List.getElem_toArray,List.getElem_cons_zero,List.getElem_cons_succ,List.setIfInBounds_toArray,List.set_cons_zero,List.set_cons_succ]
      refine wpAnyH_take (i:=14) (v:=?_) rfl (by kernel_rfl) (by kernel_rfl) (by kernel_rfl) (fun _ _ _ h=>h) (Or.inl ⟨by rfl,?_⟩) hHeld ?_
      rotate_left 1
      ·(intro w hSw;obtain⟨q1,q2,q3⟩:=HCC.out _ hSw;go_simp;try with_reducible rfl)
      try simp only[Act.put,List.getElem_toArray,List.getElem_cons_zero,List.getElem_cons_succ,List.setIfInBounds_toArray,List.set_cons_zero,List.set_cons_succ]
      refine wpAnyH_take (i:=15) (v:=?_) rfl (by kernel_rfl) (by kernel_rfl) (by kernel_rfl) (fun _ _ _ h=>h) (Or.inl ⟨by rfl,?_⟩) hHeld ?_
      rotate_left 1
      ·(intro w hSw;obtain⟨q1,q2,q3⟩:=HCC.out _ hSw;go_simp;try with_reducible rfl)
      try simp only[Act.put,List.getElem_toArray,List.getElem_cons_zero,List.getElem_cons_succ,List.setIfInBounds_toArray,List.set_cons_zero,List.set_cons_succ]
      refine wpAnyH_take (i:=16) (v:=?_) rfl (by kernel_rfl) (by kernel_rfl) (by kernel_rfl) (fun _ _ _ h=>h) (Or.inl ⟨by rfl,?_⟩) hHeld ?_
      rotate_left 1
      ·(intro w hSw;obtain⟨q1,q2,q3⟩:=HCC.out _ hSw;go_simp;try with_reducible rfl)
      try simp only[Act.put,List.getElem_toArray,List.getElem_cons_zero,List.getElem_cons_succ,List.setIfInBounds_toArray,List.set_cons_zero,List.set_cons_succ]
      refine wpAnyH_take (i:=17) (v:=?_) rfl (by kernel_rfl) (by kernel_rfl) (by kernel_rfl) (fun _ _ _ h=>h) (Or.inl ⟨by rfl,?_⟩) hHeld ?_
      rotate_left 1
      ·(intro w hSw;obtain⟨q1,q2,q3⟩:=HCC.out _ hSw;go_simp;try with_reducible rfl)
      try simp only[Act.put,List.getElem_toArray,List.getElem_cons_zero,List.getElem_cons_succ,List.setIfInBounds_toArray,List.set_cons_zero,List.set_cons_succ]
      refine wpAnyH_ready (rs:=[18]) (by kernel_rfl) (by simp) (AllReadyH.cons rfl (fun K hK=>?_) AllReadyH.nil)
      clear hHeld
      go_simp
      refine hK.out _ _ (((HGD.out).alloc _).drew) (fun hHeld=>?_)
      clear hK K
      try simp only[Act.put,List.getElem_toArray,List.getElem_cons_zero,List.getElem_cons_succ,List.setIfInBounds_toArray,List.set_cons_zero,List.set_cons_succ]
      refine wpAnyH_ready (rs:=[19]) (by kernel_rfl) (by simp) (AllReadyH.cons rfl (fun K hK=>?_) AllReadyH.nil)
      clear hHeld
      refine(if_pos rfl).mpr ?_
      refine wp_of_exec (exec_append _ _ 49 rfl u5 (.slice (some ⟨V.heap.size,0,none⟩) 1 1) rfl rfl 49 rfl HR9.out) ?_
      refine hK.out _ _ (H1.out.2.trans HG9.out) (fun hHeld=>?_)
      clear hK K
      try simp only[Act.put,List.getElem_toArray,List.getElem_cons_zero,List.getElem_cons_succ,List.setIfInBounds_toArray,List.set_cons_zero,List.set_cons_succ]
      refine wpAnyH_take (i:=20) (v:=?_) rfl (by kernel_rfl) (by kernel_rfl) (by kernel_rfl) (fun _ _ _ h=>h) (Or.inl ⟨by rfl,?_⟩) hHeld ?_
      rotate_left 1
      ·(intro w hSw;(try dsimp only at hSw);go_simp;try with_reducible rfl)
      try simp only[Act.put,List.getElem_toArray,List.getElem_cons_zero,List.getElem_cons_succ,List.setIfInBounds_toArray,List.set_cons_zero,List.set_cons_succ]
      refine wpAnyH_done (by kernel_rfl) ?_ _
      refine NoPanic.normal ?_
      go_wp2_with fail
      exact⟨⟨n+1,HLT.out,by rw[HWN.out];exact rl1 n,by rw[HST.out];exact HR2.out,HG9.out⟩,by rw[HWN.out];exact ms_end HLT.out⟩
     ·have d4:(ei==ri)=false:=by simp[f3]
      have d5:decide (ei=ri)=false:=by simp[f3]
      have HST:=hide hst
      rw[if_neg (by simp[f3])] at HST
      clear hst
      go_wp2_with fail
      go_quiet (fail)
      generalize hV:World.drewN wr _=V
      have HGV:Hid (G wr V):=by rw[←hV];exact(G.refl wr).drewN _
      clear hV hbc q1 q2 q3 q4
      go_wp2_with fail
      exact⟨⟨n+1,HLT.out,by rw[HWN.out];exact rl1 n,by rw[HST.out];exact own_G HOW.out HGV.out,HGW.out.trans HGV.out⟩,by rw[HWN.out];exact ms_end HLT.out⟩
    ·have d4:¬eb.toList=rb.toList:=fun q=>f2 (toList_inj q)
     have HST:=hide hst
     rw[if_neg (by simp[f2])] at HST
     clear hst
     go_wp2_with fail
     go_quiet (fail)
     generalize hV:World.drewN wr _=V
     have HGV:Hid (G wr V):=by rw[←hV];exact(G.refl wr).drewN _
     clear hV hbc q1 q2 q3 q4
     go_wp2_with fail
     exact⟨⟨n+1,HLT.out,by rw[HWN.out];exact rl1 n,by rw[HST.out];exact own_G HOW.out HGV.out,HGW.out.trans HGV.out⟩,by rw[HWN.out];exact ms_end HLT.out⟩
   ·have d4:(el==rl)=false:=by simp[f1]
    have d5:decide (el=rl)=false:=by simp[f1]
    have HST:=hide hst
    rw[if_neg (by simp[f1])] at HST
    clear hst
    go_wp2_with fail
    go_quiet (fail)
    generalize hV:World.drewN wr _=V
    have HGV:Hid (G wr V):=by rw[←hV];exact(G.refl wr).drewN _
    clear hV hbc q1 q2 q3 q4
    go_wp2_with fail
    exact⟨⟨n+1,HLT.out,by rw[HWN.out];exact rl1 n,by rw[HST.out];exact own_G HOW.out HGV.out,HGW.out.trans HGV.out⟩,by rw[HWN.out];exact ms_end HLT.out⟩
  ·have hne:n=R.aq.length:=by omega
   subst hne
   have hnI:¬((R.aq.length:Int)<(R.aq.length:Int)):=by omega
   rw[List.take_length] at how
   have HGW:=hide hgw;have HOW:=hide how
   clear hn hlt hll hgw hR how
   go_wp2_with fail
   go_ret
   exact⟨_,rfl,own_lo HOW.out H1.out.2.size,H1.out.2.trans HGW.out⟩
end
section
open Go.RowKit
structure HQ(hd aq:List Lk)(hl:Rs→Int→Int)(qs:Rs→List (Int×Int)):Prop where
 hn:(hd.map fun e=>(e.x,e.r)).Nodup
 h1:∀e∈hd,e.c=hl e.r e.x∧e.c≠0
 h2:∀r x,hl r x≠0→∃e∈hd,e.r=r∧e.x=x
 qa:∀r,queP r aq=qs r
 up:∀e∈aq,e.up=decide (hl e.r e.x≠0)
theorem queP_app(r:Rs)(a b:List Lk):queP r (a++b)=queP r a++queP r b:=by
 unfold queP
 rw[List.filter_append,List.map_append]
theorem queP_cons(r:Rs)(e:Lk)(l:List Lk):queP r (e::l)=if e.r=r then(e.x,e.c)::queP r l else queP r l:=by
 unfold queP
 by_cases h:e.r=r
 ·rw[if_pos h,List.filter_cons_of_pos (by simp[h])];rfl
 ·rw[if_neg h,List.filter_cons_of_neg (by simp[h])]
theorem queP_mem{r:Rs}{l:List Lk}{x c:Int}:(x,c)∈queP r l↔∃e∈l,e.r=r∧e.x=x∧e.c=c:=by
 unfold queP
 rw[List.mem_map]
 constructor
 ·rintro⟨e,he,h⟩
  obtain⟨h1,h2⟩:=List.mem_filter.1 he
  cases h
  exact⟨e,h1,by simpa using h2,rfl,rfl⟩
 ·rintro⟨e,he,h1,h2,h3⟩
  exact⟨e,List.mem_filter.2 ⟨he,by simpa using h1⟩,by rw[h2,h3]⟩
theorem lk_split{l:List Lk}{n:Nat}{q:Lk}(h:l[n]?=some q):l=l.take n++q::l.drop (n+1):=by
 obtain⟨h1,h2⟩:=List.getElem?_eq_some_iff.1 h
 rw[←h2,←List.drop_eq_getElem_cons h1,List.take_append_drop]
theorem que_split{l:List Lk}{n:Nat}{q:Lk}(h:l[n]?=some q):queP q.r l=queP q.r (l.take n)++(q.x,q.c)::queP q.r (l.drop (n+1)):=by
 have e:=congrArg (queP q.r) (lk_split h)
 rw[queP_app,queP_cons,if_pos rfl] at e
 exact e
theorem que_at{l:List Lk}{n:Nat}{q:Lk}(h:l[n]?=some q):(queP q.r l)[(queP q.r (l.take n)).length]?=some (q.x,q.c):=by
 rw[que_split h,List.getElem?_append_right (Nat.le_refl _),Nat.sub_self];rfl
section
variable {hd aq:List Lk} {hl:Rs→Int→Int} {qs:Rs→List (Int×Int)}
theorem HQ.hb(h:HQ hd aq hl qs)(x:Int)(r:Rs):hbI x r hd=hl r x:=by
 unfold hbI
 cases hf:hd.find? (fun e=>decide (e.x=x∧e.r=r))with
 | none=>
  rw[List.find?_eq_none] at hf
  by_cases e:hl r x=0
  ·exact e.symm
  ·obtain⟨a,ha,h3,h4⟩:=h.h2 r x e
   exact absurd (by simp[h3,h4]) (hf a ha)
 | some a=>
  have h1:=List.find?_some hf
  have h2:=List.mem_of_find?_eq_some hf
  have h3:a.x=x∧a.r=r:=by simpa using h1
  obtain⟨h4,-⟩:=h.h1 a h2
  show a.c=hl r x
  rw[h4,h3.1,h3.2]
theorem HQ.at(h:HQ hd aq hl qs){n:Nat}{q:Lk}(hq:aq[n]?=some q):(qs q.r)[(queP q.r (aq.take n)).length]?=some (q.x,q.c):=by
 rw[←h.qa];exact que_at hq
theorem HQ.way(h:HQ hd aq hl qs)(tx:List Tx){n:Nat}{q:Lk}(hq:aq[n]?=some q)(hn:((qs q.r).map Prod.fst).Nodup)(y:Int) :
  y∈inwP ⟨tx,hd,aq⟩ n q↔inW (hl q.r) (qs q.r) q.x q.c (queP q.r (aq.take n)).length y:=by
 have hat:=h.at hq
 have hsp:=que_split hq
 rw[h.qa] at hsp
 unfold inwP
 rw[wayP_mem,wayP_mem]
 unfold inW
 refine or_congr ?_ ?_
 ·constructor
  ·rintro(h0|⟨e,he,hb,rfl⟩)
   ·cases h0
   ·obtain⟨h3,h4⟩:=h.h1 e he
    simp[iwB] at hb
    obtain⟨b1,b2,b3⟩:=hb
    rw[b2] at h3
    exact⟨by rw[←h3];exact h4,b1,by rw[←h3];exact b3⟩
  ·rintro⟨h1,h2,h3⟩
   obtain⟨e,he,e1,e2⟩:=h.h2 _ _ h1
   obtain⟨h4,-⟩:=h.h1 e he
   rw[e1,e2] at h4
   exact .inr ⟨e,he,by simp[iwB,e2,h2,e1,h4,h3],e2⟩
 ·constructor
  ·rintro⟨e,he,hb,rfl⟩
   simp[iwB] at hb
   obtain⟨b1,b2,b3⟩:=hb
   have hm:(e.x,e.c)∈queP q.r (aq.take n):=queP_mem.2 ⟨e,he,b2,rfl,rfl⟩
   obtain⟨j,hj⟩:=List.mem_iff_getElem?.1 hm
   have hjl:=(List.getElem?_eq_some_iff.1 hj).1
   exact⟨j,e.c,hjl,by rw[hsp,List.getElem?_append_left hjl];exact hj,b3⟩
  ·rintro⟨j,g,hjl,hj,hf⟩
   have hj2:=hj
   rw[hsp,List.getElem?_append_left hjl] at hj2
   obtain⟨e,he,e1,e2,e3⟩:=queP_mem.1 (List.mem_of_getElem? hj2)
   refine⟨e,he,?_,e2⟩
   have hne:y≠q.x:=fun ey=>by
    subst ey
    have:=nodup_at hn hj hat
    omega
   simp[iwB,e1,e2,e3,hne,hf]
def entN(q:Lk)(l:List Lk):Nat:=if q.up then l.findIdx (fun e:Lk=>decide (e.r=q.r)&&!e.up)else l.length
def entP(q:Lk)(l:List Lk):List Lk:=l.take (entN q l)++q::l.drop (entN q l)
theorem entN_le(q:Lk)(l:List Lk):entN q l≤l.length:=by
 unfold entN
 split
 ·exact List.findIdx_le_length
 ·exact Nat.le_refl _
theorem ent_at(q:Lk)(l:List Lk):(entP q l)[entN q l]?=some q:=by
 unfold entP
 have h:=entN_le q l
 rw[List.getElem?_append_right (by rw[List.length_take];omega),List.length_take,Nat.min_eq_left h,Nat.sub_self];rfl
theorem ent_take(q:Lk)(l:List Lk):(entP q l).take (entN q l)=l.take (entN q l):=by
 unfold entP
 have h:=entN_le q l
 rw[List.take_append_of_le_length (by rw[List.length_take];omega),List.take_take,Nat.min_self]
theorem ent_drop(q:Lk)(l:List Lk):(entP q l).drop (entN q l+1)=l.drop (entN q l):=by
 unfold entP
 have h:=entN_le q l
 rw[List.drop_append,List.length_take,Nat.min_eq_left h,show entN q l+1-entN q l=1 by omega,List.drop_of_length_le (by rw[List.length_take];omega)]
 rfl
theorem HQ.entN(h:HQ hd aq hl qs){q:Lk}(hu:q.up=decide (hl q.r q.x≠0)):(queP q.r (aq.take (entN q aq))).length=if hl q.r q.x=0 then(qs q.r).length else upN (hl q.r) (qs q.r):=by
 have hsp:qs q.r=queP q.r (aq.take (Go.Proofs.YtoefbpldmlebdaaGreatDoor.entN q aq))++queP q.r (aq.drop (Go.Proofs.YtoefbpldmlebdaaGreatDoor.entN q aq)):=by rw[←queP_app,List.take_append_drop,h.qa]
 by_cases e:hl q.r q.x=0
 ·rw[if_pos e]
  have hf:q.up=false:=by rw[hu];simp[e]
  unfold Go.Proofs.YtoefbpldmlebdaaGreatDoor.entN
  rw[hf,if_neg (by simp),List.take_length,h.qa]
 ·rw[if_neg e]
  have hf:q.up=true:=by rw[hu];simp[e]
  have hk:Go.Proofs.YtoefbpldmlebdaaGreatDoor.entN q aq=aq.findIdx (fun e:Lk=>decide (e.r=q.r)&&!e.up):=by
   unfold Go.Proofs.YtoefbpldmlebdaaGreatDoor.entN
   rw[hf,if_pos rfl]
  refine(upN_eq (hl q.r) (qs q.r) _ (by rw[hsp,List.length_append];omega) (fun j o hj ho=>?_) (fun o ho=>?_)).symm
  ·rw[hsp,List.getElem?_append_left hj] at ho
   obtain⟨a,ha,e1,e2,e3⟩:=queP_mem.1 (List.mem_of_getElem? ho)
   obtain⟨i,hi⟩:=List.mem_iff_getElem?.1 ha
   rw[List.getElem?_take] at hi
   by_cases hik:i<Go.Proofs.YtoefbpldmlebdaaGreatDoor.entN q aq
   ·rw[if_pos hik] at hi
    obtain⟨h1,h2⟩:=List.getElem?_eq_some_iff.1 hi
    have h3:=List.not_of_lt_findIdx (p:=fun e:Lk=>decide (e.r=q.r)&&!e.up) (by rw[←hk];exact hik)
    rw[h2] at h3
    have h4:a.up=true:=by simpa [e1] using h3
    have h5:=h.up a (List.mem_of_getElem? hi)
    rw[h4,e1,e2] at h5
    simpa using h5.symm
   ·rw[if_neg hik] at hi;cases hi
  ·rw[hsp,List.getElem?_append_right (Nat.le_refl _),Nat.sub_self] at ho
   by_cases hlt:Go.Proofs.YtoefbpldmlebdaaGreatDoor.entN q aq<aq.length
   ·rw[List.drop_eq_getElem_cons hlt,queP_cons] at ho
    have hlt2:=hlt
    rw[hk] at hlt2
    have h3:=List.findIdx_getElem (p:=fun e:Lk=>decide (e.r=q.r)&&!e.up) (w:=hlt2)
    have h4:aq[aq.findIdx (fun e:Lk=>decide (e.r=q.r)&&!e.up)]=aq[Go.Proofs.YtoefbpldmlebdaaGreatDoor.entN q aq]:=by simp only[hk]
    rw[h4] at h3
    obtain⟨h5,h6⟩:(aq[Go.Proofs.YtoefbpldmlebdaaGreatDoor.entN q aq]).r=q.r∧(aq[Go.Proofs.YtoefbpldmlebdaaGreatDoor.entN q aq]).up=false:=by simpa using h3
    rw[if_pos h5] at ho
    have ho:((aq[Go.Proofs.YtoefbpldmlebdaaGreatDoor.entN q aq]).x,(aq[Go.Proofs.YtoefbpldmlebdaaGreatDoor.entN q aq]).c)=o:=by simpa using ho
    have h7:=h.up _ (List.getElem_mem hlt)
    rw[h6,h5] at h7
    rw[←ho]
    simpa using h7.symm
   ·rw[List.drop_of_length_le (by omega)] at ho
    cases ho
theorem HQ.ent(h:HQ hd aq hl qs){q:Lk}(hu:q.up=decide (hl q.r q.x≠0)){a:Nat}(ha:a=(queP q.r (aq.take (Go.Proofs.YtoefbpldmlebdaaGreatDoor.entN q aq))).length):HQ hd (entP q aq) hl (upd qs q.r (putQ (qs q.r) a q.x q.c)):=by
 refine⟨h.hn,h.h1,h.h2,fun r=>?_,fun e he=>?_⟩
 ·unfold entP
  rw[queP_app,queP_cons]
  have hsp:qs r=queP r (aq.take (Go.Proofs.YtoefbpldmlebdaaGreatDoor.entN q aq))++queP r (aq.drop (Go.Proofs.YtoefbpldmlebdaaGreatDoor.entN q aq)):=by rw[←queP_app,List.take_append_drop,h.qa]
  by_cases e:r=q.r
  ·subst e
   rw[if_pos rfl,upd_same,hsp,ha]
   unfold putQ
   rw[List.take_left,List.drop_left]
  ·rw[if_neg (fun h=>e h.symm),upd_other e,hsp]
 ·unfold entP at he
  rcases List.mem_append.1 he with he|he
  ·exact h.up e (List.mem_of_mem_take he)
  ·rcases List.mem_cons.1 he with rfl|he
   ·exact hu
   ·exact h.up e (List.mem_of_mem_drop he)
def cutP(n:Nat)(l:List Lk):List Lk:=l.take n++l.drop (n+1)
theorem cutP_ent(q:Lk)(l:List Lk):cutP (Go.Proofs.YtoefbpldmlebdaaGreatDoor.entN q l) (entP q l)=l:=by
 unfold cutP
 rw[ent_take,ent_drop,List.take_append_drop]
theorem cutP_mem{n:Nat}{l:List Lk}{e:Lk}(h:e∈cutP n l):e∈l:=by
 unfold cutP at h
 rcases List.mem_append.1 h with h|h
 ·exact List.mem_of_mem_take h
 ·exact List.mem_of_mem_drop h
theorem drop_mid{α:Type}(A:List α)(y:α)(B:List α):(A++y::B).drop (A.length+1)=B:=by
 induction A with
 | nil=>rfl
 | cons a A ih=>simp
theorem que_cut{l:List Lk}{n:Nat}{q:Lk}(h:l[n]?=some q)(r:Rs):queP r (cutP n l)=if r=q.r then cutQ (queP r l) (queP r (l.take n)).length else queP r l:=by
 unfold cutP
 rw[queP_app]
 by_cases e:r=q.r
 ·subst e
  rw[if_pos rfl,que_split h]
  unfold cutQ
  rw[List.take_left,drop_mid]
 ·rw[if_neg e]
  have:=congrArg (queP r) (lk_split h)
  rw[queP_app,queP_cons,if_neg (fun h=>e h.symm)] at this
  exact this.symm
theorem HQ.cut(h:HQ hd aq hl qs){n:Nat}{q:Lk}(hq:aq[n]?=some q):HQ hd (cutP n aq) hl (upd qs q.r (cutQ (qs q.r) (queP q.r (aq.take n)).length)):=by
 refine⟨h.hn,h.h1,h.h2,fun r=>?_,fun e he=>h.up e (cutP_mem he)⟩
 rw[que_cut hq]
 by_cases e:r=q.r
 ·subst e
  rw[if_pos rfl,upd_same,h.qa]
 ·rw[if_neg e,upd_other e,h.qa]
def holP(x:Int)(r:Rs)(c:Int)(l:List Lk):List Lk:=match l.findIdx? (fun e=>decide (e.x=x∧e.r=r))with
 | some i=>l.modify i (fun e=>{e with c:=c})
 | none=>l++[⟨x,r,c,false⟩]
theorem HQ.hold(h:HQ hd aq hl qs){x:Int}{r:Rs}{c:Int}(hc:c≠0)(hq:∀g,(x,g)∉qs r){hl':Rs→Int→Int}(e1:hl' r x=c)(e2:∀r' y,¬(y=x∧r'=r)→hl' r' y=hl r' y):HQ (holP x r c hd) aq hl' qs:=by
 have hup:∀e∈aq,e.up=decide (hl' e.r e.x≠0):=fun e he=>by
  have hne:¬(e.x=x∧e.r=r):=fun hh=>hq e.c (by rw[←h.qa];exact queP_mem.2 ⟨e,he,hh.2,hh.1,rfl⟩)
  rw[e2 _ _ hne]
  exact h.up e he
 unfold holP
 cases hf:hd.findIdx? (fun e=>decide (e.x=x∧e.r=r))with
 | none=>
  rw[List.findIdx?_eq_none_iff] at hf
  have hno:∀e∈hd,¬(e.x=x∧e.r=r):=fun e he=>by simpa using hf e he
  refine⟨?_,fun e he=>?_,fun r' y hy=>?_,h.qa,hup⟩
  ·rw[List.map_append,List.nodup_append]
   refine⟨h.hn,by simp,fun a ha b hb e=>?_⟩
   simp at hb
   obtain⟨o,ho,rfl⟩:=List.mem_map.1 ha
   rw[←e] at hb
   simp only[Prod.mk.injEq] at hb
   exact hno o ho hb
  ·rcases List.mem_append.1 he with he|he
   ·obtain⟨h3,h4⟩:=h.h1 e he
    exact⟨by rw[e2 _ _ (hno e he)];exact h3,h4⟩
   ·simp at he
    subst he
    exact⟨e1.symm,hc⟩
  ·by_cases e:y=x∧r'=r
   ·exact⟨_,List.mem_append_right _ (List.mem_singleton.2 rfl),e.2.symm,e.1.symm⟩
   ·rw[e2 _ _ e] at hy
    obtain⟨o,ho,h3⟩:=h.h2 r' y hy
    exact⟨o,List.mem_append_left _ ho,h3⟩
 | some i=>
  obtain⟨hi,hi2,-⟩:=List.findIdx?_eq_some_iff_getElem.1 hf
  have hk:(hd[i]).x=x∧(hd[i]).r=r:=by simpa using hi2
  have hmap:(hd.modify i (fun e=>{e with c:=c})).map (fun e=>(e.x,e.r))=hd.map (fun e=>(e.x,e.r)):=by
   apply List.ext_getElem?
   intro j
   rw[List.getElem?_map,List.getElem?_map,List.getElem?_modify]
   cases hd[j]? with
   | none=>rfl
   | some o=>by_cases hij:i=j<;>simp[hij]
  have hmem:∀e∈hd.modify i (fun e=>{e with c:=c}),∃j o,hd[j]?=some o∧((i=j∧e={o with c:=c})∨(i≠j∧e=o)):=fun e he=>by
   obtain⟨j,hj⟩:=List.mem_iff_getElem?.1 he
   rw[List.getElem?_modify] at hj
   cases ho:hd[j]? with
   | none=>rw[ho] at hj;cases hj
   | some o=>
    rw[ho] at hj
    have hj:(if i=j then {o with c:=c} else o)=e:=by simpa using hj
    refine⟨j,o,ho,?_⟩
    by_cases hij:i=j
    ·left;rw[if_pos hij] at hj;exact⟨hij,hj.symm⟩
    ·right;rw[if_neg hij] at hj;exact⟨hij,hj.symm⟩
  refine⟨by rw[hmap];exact h.hn,fun e he=>?_,fun r' y hy=>?_,h.qa,hup⟩
  ·obtain⟨j,o,ho,⟨rfl,rfl⟩|⟨hij,rfl⟩⟩:=hmem e he
   ·have eo:hd[i]=o:=by
     have:=List.getElem?_eq_getElem hi
     rw[ho] at this
     exact(Option.some.inj this).symm
    rw[eo] at hk
    refine⟨?_,hc⟩
    show c=hl' o.r o.x
    rw[hk.1,hk.2,e1]
   ·have hne:¬(e.x=x∧e.r=r):=fun hh=>by
     have q1:(hd.map fun e=>(e.x,e.r))[i]?=some (x,r):=by rw[List.getElem?_map,List.getElem?_eq_getElem hi];simp[hk]
     have q2:(hd.map fun e=>(e.x,e.r))[j]?=some (x,r):=by rw[List.getElem?_map,ho];simp[hh]
     obtain⟨l1,k1⟩:=List.getElem?_eq_some_iff.1 q1
     obtain⟨l2,k2⟩:=List.getElem?_eq_some_iff.1 q2
     exact hij ((List.getElem_inj (h₀:=l1) (h₁:=l2) h.hn).1 (k1.trans k2.symm))
    obtain⟨h3,h4⟩:=h.h1 e (List.mem_of_getElem? ho)
    exact⟨by rw[e2 _ _ hne];exact h3,h4⟩
  ·by_cases e:y=x∧r'=r
   ·refine⟨{hd[i] with c:=c},List.mem_iff_getElem?.2 ⟨i,by rw[List.getElem?_modify,List.getElem?_eq_getElem hi];simp⟩,?_,?_⟩
    ·rw[e.2];exact hk.2
    ·rw[e.1];exact hk.1
   ·rw[e2 _ _ e] at hy
    obtain⟨o,ho,h3,h4⟩:=h.h2 r' y hy
    obtain⟨j,hj⟩:=List.mem_iff_getElem?.1 ho
    have hij:¬i=j:=fun hij=>by
     subst hij
     have eo:hd[i]=o:=by
      have:=List.getElem?_eq_getElem hi
      rw[hj] at this
      exact(Option.some.inj this).symm
     rw[eo] at hk
     exact e ⟨h4.symm.trans hk.1,h3.symm.trans hk.2⟩
    exact⟨o,List.mem_iff_getElem?.2 ⟨j,by rw[List.getElem?_modify,hj];simp[hij]⟩,h3,h4⟩
theorem HQ.del(h:HQ hd aq hl qs)(x:Int)(hq:∀r g,(x,g)∉qs r):HQ (hd.filter fun e=>e.x != x) aq (fun r=>upd (hl r) x 0) qs:=by
 refine⟨h.hn.sublist (List.filter_sublist.map _),fun e he=>?_,fun r y hy=>?_,h.qa,fun e he=>?_⟩
 ·obtain⟨h1,h2⟩:=List.mem_filter.1 he
  have hne:e.x≠x:=by simpa using h2
  show e.c=upd (hl e.r) x 0 e.x∧_
  rw[upd_other hne]
  exact h.h1 e h1
 ·have hne:y≠x:=fun e=>hy (by subst e;exact upd_same _ _ _)
  have hy2:hl r y≠0:=by
   have:upd (hl r) x 0 y=hl r y:=upd_other hne
   rw[←this];exact hy
  obtain⟨o,ho,h3,h4⟩:=h.h2 r y hy2
  exact⟨o,List.mem_filter.2 ⟨ho,by rw[h4];simpa using hne⟩,h3,h4⟩
 ·have hne:e.x≠x:=fun hh=>hq e.r e.c (by rw[←hh,←h.qa];exact queP_mem.2 ⟨e,he,rfl,rfl,rfl⟩)
  show _=decide (upd (hl e.r) x 0 e.x≠0)
  rw[upd_other hne]
  exact h.up e he
end
end
end Go.Proofs.YtoefbpldmlebdaaGreatDoor
