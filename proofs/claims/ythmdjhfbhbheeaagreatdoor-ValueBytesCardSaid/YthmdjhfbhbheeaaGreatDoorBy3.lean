import Derived.Test.YthmdjhfbhbheeaaGreatDoorBy2
namespace Go.Proofs.YthmdjhfbhbheeaaGreatDoor
open Go.Proofs.Tryz
set_option maxHeartbeats 400000
set_option maxRecDepth 100000
section
open Go.RowKit Go.PlainAid Go.Lib Go.Shelf
def EncO(k a b:Int)(s:ByteArray)(xs:List Nat)(c:Int):Prop:=xs.length≤1073741824∧(∀w,Tabs w→Calls prog 8 #[V k a b s] w fun e w'=>∃x,e=.returned (.tuple #[x,.int .i64 c])∧Bw w w' x xs)∧∀w,Calls prog 9 #[V k a b s] w fun e w'=>∃x,e=.returned (.tuple #[x,.int .i64 c])∧G w w'∧RowB w' x xs
theorem BV.new(w:World)(X:Nat→Value)(ln:Nat→Nat):BV (w.alloc (.cells #[.slice none 0 0] 28)) w.heap.size w.heap.size 0 0 0 (.slice none 0 0) X ln:=
 ⟨Blk.new w [.slice none 0 0] 28,World.ownsRow_nil _ _ _ _,Nat.le_refl _,fun t ht=>by omega,fun t _ ht=>by omega,fun t _ _ ht=>by omega,fun t _ ht=>by omega,fun t ht=>by omega⟩
theorem G.trans2Y{w a b:World}(h:Go.Proofs.YthmdjhfbhbheeaaGreatDoor.G w a)(k:Chg (fun j=>w.heap.size≤j) a b):Go.Proofs.YthmdjhfbhbheeaaGreatDoor.G w b:=
 ((h.chg (F:=fun j=>w.heap.size≤j)).trans k).G (fun _ h=>h)
theorem zOv:(prog.info? 36).map (·.size)=some 12:=by kernel_rfl
theorem zN7{cs:List Value}(h:∀v∈cs,v.oneCell'=true):cs.toArray.all (·.oneCell')=true:=all_oneCell_toArray h
theorem zK6(b off n cap:Nat)(hn:n≤651562446089)(E:Nat→Ent)(w:World)(hT:Tabs w)(hE:Ents w b off n E)(hP:∀i,i<n→∀w',G w w'→Calls prog 7 #[(E i).V] w' fun r w''=>r=.returned (.bool true)∧G w' w'')
  (hC:∀i,i<n→(∃xs c,EncO (E i).k (E i).a (E i).b (E i).s xs c)∧∃xs c,EncO (E i).k' (E i).a' (E i).b' (E i).s' xs c) :
  CG 5 #[.slice (some ⟨b,off,none⟩) n cap] w (.bool true):=by
 have HP:=hidY hP;have HE:=hidY hE;have HC:=hidY hC;have HT:=hidY hT;have H0:=hidY (BV.new w (fun _=>.slice none 0 0) (fun _=>0));have HG0:=hidY ((G.refl w).alloc (.cells #[.slice none 0 0] 28));clear hP hE hC hT
 go_enter func5,ntmps5
 go_wp2
 generalize w.alloc (.cells #[.slice none 0 0] 28)=w0 at H0 HG0⊢
 go_loopw [4,5,6,7,8,9,10,11,12,13,14] (fun c _ _ _ _ _ _ _ _ _ _ W=>∃i N:Nat,i≤n∧N=3*i∧c=.int .i64 i∧∃lv X ln,BV W w.heap.size w.heap.size N N N lv X ln∧G w W) (fun c _ _ _ _ _ _ _ _ _ _ _=>n-(RowKit.intOf c).toNat)
 case atStart=>exact⟨0,0,by omega,rfl,rfl,_,_,_,H0.out,HG0.out⟩
 case round=>
  obtain⟨i,N,hi,hN,rfl,lv,X,ln,hb,hg⟩:=hrel;obtain⟨la,lc,elv⟩:=hb.l.slice;subst elv;have HB:=hidY hb;have HG:=hidY hg
  have hNb:N+3≤1954687338270:=by omega
  have HN:=hidY hN;clear hb hg H0 HG0 hN
  by_cases hlt:i<n
  ·have hiI:(i:Int)<(n:Int):=by omega
   have HX:=hidY (zCB (HE.out i hlt) HG.out);have HR:=hidY (HP.out i hlt);obtain⟨⟨xs1,c1,hc1⟩,xs2,c2,hc2⟩:=HC.out i hlt;have HC1:=hidY hc1;have HC2:=hidY hc2;clear hc1 hc2;generalize E i=ee at HX HR HC1 HC2;obtain⟨kind,op,k,a,b0,s,k',a',b',s',vs,st,tt,bs,nn,x,y,o1,o2⟩:=ee
   go_wp2_with (first|(refine wpList_load_mid rfl 35 _ rfl b (off+i*19) rfl [I kind,I op,I k,I a,I b0,.string s,I k',I a',I b',.string s',vs,.string st,.string tt,bs,I nn,I x,I y,I o1,I o2] _ HX.out underlying35 rfl (by kernel_rfl) ?_)|fail)
   refine(HR.out _ HG.out).mono ?_;rintro e' w1 ⟨rfl,hg1⟩;have HG1:=hidY (HG.out.trans hg1);have HB1:=hidY (HB.out.G hg1);have HX1:=hidY (zCB HX.out hg1);clear hg1 HB HX HG;have hcb:w1.cell? ⟨w.heap.size,0,none⟩=some (.slice la N lc):=HB1.out.b.cell 0
   have HS9:Hid (∀W,G w1 W→W.cell? ⟨b,off+i*19+2,none⟩=some (I k)∧W.cell? ⟨b,off+i*19+3,none⟩=some (I a)∧W.cell? ⟨b,off+i*19+4,none⟩=some (I b0)∧W.cell? ⟨b,off+i*19+5,none⟩=some (.string s)∧W.cell? ⟨b,off+i*19+6,none⟩=some (I k')∧W.cell? ⟨b,off+i*19+7,none⟩=some (I a')∧W.cell? ⟨b,off+i*19+8,none⟩=some (I b')∧W.cell? ⟨b,off+i*19+9,none⟩=some (.string s')):=fun W g=>by
    have h:=fun j v hv=>zCB HX1.out g j v hv;exact⟨h 2 _ rfl,h 3 _ rfl,h 4 _ rfl,h 5 _ rfl,h 6 _ rfl,h 7 _ rfl,h 8 _ rfl,h 9 _ rfl⟩
   go_wp2_with fail
   clear hcb;refine wp_region_noPanic ?_;refine wp_region_held_drew (S:=(fun W=>W.cell? ⟨b,off+i*19+2,none⟩=some (I k)∧W.cell? ⟨b,off+i*19+3,none⟩=some (I a)∧W.cell? ⟨b,off+i*19+4,none⟩=some (I b0)∧W.cell? ⟨b,off+i*19+5,none⟩=some (.string s)∧W.cell? ⟨b,off+i*19+6,none⟩=some (I k')∧W.cell? ⟨b,off+i*19+7,none⟩=some (I a')∧W.cell? ⟨b,off+i*19+8,none⟩=some (I b')∧W.cell? ⟨b,off+i*19+9,none⟩=some (.string s'))) (by kernel_rfl) (HS9.out _ (G.drew (G.refl _))) (fun hHeld=>?_);refine wpAnyH_take (i:=0) (v:=?_) rfl (by kernel_rfl) (by kernel_rfl) (by kernel_rfl) (fun _ _ _ h=>h) (Or.inl ⟨by rfl,?_⟩) hHeld ?_;rotate_left 1
   ·(intro w hSw;(try dsimp only at hSw);go_simp;try with_reducible rfl)
   try simp only[Act.put,List.getElem_toArray,List.getElem_cons_zero,List.setIfInBounds_toArray,List.set_cons_zero,List.set_cons_succ]
   refine wpAnyH_take (i:=1) (v:=?_) rfl (by kernel_rfl) (by kernel_rfl) (by kernel_rfl) (fun _ _ _ h=>h) (Or.inl ⟨by rfl,?_⟩) hHeld ?_;rotate_left 1
   ·(intro w hSw;(try dsimp only at hSw);go_simp;try with_reducible rfl)
   try simp only[Act.put,List.getElem_toArray,List.getElem_cons_zero,List.getElem_cons_succ,List.setIfInBounds_toArray,List.set_cons_zero,List.set_cons_succ]
   refine wpAnyH_take (i:=2) (v:=?_) rfl (by kernel_rfl) (by kernel_rfl) (by kernel_rfl) (fun _ _ _ h=>h) (Or.inl ⟨by rfl,?_⟩) hHeld ?_;rotate_left 1
   ·(intro w hSw;(try dsimp only at hSw);go_simp;try with_reducible rfl)
   try simp only[Act.put,List.getElem_toArray,List.getElem_cons_zero,List.getElem_cons_succ,List.setIfInBounds_toArray,List.set_cons_zero,List.set_cons_succ]
   refine wpAnyH_take (i:=3) (v:=?_) rfl (by kernel_rfl) (by kernel_rfl) (by kernel_rfl) (fun _ _ _ h=>h) (Or.inl ⟨by rfl,?_⟩) hHeld ?_;rotate_left 1
   ·(intro w hSw;(try dsimp only at hSw);go_simp;try with_reducible rfl)
   try simp only[Act.put,List.getElem_toArray,List.getElem_cons_zero,List.getElem_cons_succ,List.setIfInBounds_toArray,List.set_cons_zero,List.set_cons_succ]
   refine wpAnyH_take (i:=4) (v:=?_) rfl (by kernel_rfl) (by kernel_rfl) (by kernel_rfl) (fun _ _ _ h=>h) (Or.inl ⟨by rfl,?_⟩) hHeld ?_;rotate_left 1
   ·(intro w hSw;obtain⟨q2,q3,q4,q5,q6,q7,q8,q9⟩:=hSw;go_simp;try with_reducible rfl)
   try simp only[Act.put,List.getElem_toArray,List.getElem_cons_zero,List.getElem_cons_succ,List.setIfInBounds_toArray,List.set_cons_zero,List.set_cons_succ]
   refine wpAnyH_take (i:=5) (v:=?_) rfl (by kernel_rfl) (by kernel_rfl) (by kernel_rfl) (fun _ _ _ h=>h) (Or.inl ⟨by rfl,?_⟩) hHeld ?_;rotate_left 1
   ·(intro w hSw;(try dsimp only at hSw);go_simp;try with_reducible rfl)
   try simp only[Act.put,List.getElem_toArray,List.getElem_cons_zero,List.getElem_cons_succ,List.setIfInBounds_toArray,List.set_cons_zero,List.set_cons_succ]
   refine wpAnyH_take (i:=6) (v:=?_) rfl (by kernel_rfl) (by kernel_rfl) (by kernel_rfl) (fun _ _ _ h=>h) (Or.inl ⟨by rfl,?_⟩) hHeld ?_;rotate_left 1
   ·(intro w hSw;(try dsimp only at hSw);go_simp;try with_reducible rfl)
   try simp only[Act.put,List.getElem_toArray,List.getElem_cons_zero,List.getElem_cons_succ,List.setIfInBounds_toArray,List.set_cons_zero,List.set_cons_succ]
   refine wpAnyH_take (i:=7) (v:=?_) rfl (by kernel_rfl) (by kernel_rfl) (by kernel_rfl) (fun _ _ _ h=>h) (Or.inl ⟨by rfl,?_⟩) hHeld ?_;rotate_left 1
   ·(intro w hSw;(try dsimp only at hSw);go_simp;try with_reducible rfl)
   try simp only[Act.put,List.getElem_toArray,List.getElem_cons_zero,List.getElem_cons_succ,List.setIfInBounds_toArray,List.set_cons_zero,List.set_cons_succ]
   refine wpAnyH_take (i:=8) (v:=?_) rfl (by kernel_rfl) (by kernel_rfl) (by kernel_rfl) (fun _ _ _ h=>h) (Or.inl ⟨by rfl,?_⟩) hHeld ?_;rotate_left 1
   ·(intro w hSw;(try dsimp only at hSw);go_simp;try with_reducible rfl)
   try simp only[Act.put,List.getElem_toArray,List.getElem_cons_zero,List.getElem_cons_succ,List.setIfInBounds_toArray,List.set_cons_zero,List.set_cons_succ]
   refine wpAnyH_take (i:=9) (v:=?_) rfl (by kernel_rfl) (by kernel_rfl) (by kernel_rfl) (fun _ _ _ h=>h) (Or.inl ⟨by rfl,?_⟩) hHeld ?_;rotate_left 1
   ·(intro w hSw;obtain⟨q2,q3,q4,q5,q6,q7,q8,q9⟩:=hSw;go_simp;try with_reducible rfl)
   try simp only[Act.put,List.getElem_toArray,List.getElem_cons_zero,List.getElem_cons_succ,List.setIfInBounds_toArray,List.set_cons_zero,List.set_cons_succ]
   refine wpAnyH_take (i:=10) (v:=?_) rfl (by kernel_rfl) (by kernel_rfl) (by kernel_rfl) (fun _ _ _ h=>h) (Or.inl ⟨by rfl,?_⟩) hHeld ?_;rotate_left 1
   ·(intro w hSw;(try dsimp only at hSw);go_simp;try with_reducible rfl)
   try simp only[Act.put,List.getElem_toArray,List.getElem_cons_zero,List.getElem_cons_succ,List.setIfInBounds_toArray,List.set_cons_zero,List.set_cons_succ]
   refine wpAnyH_take (i:=11) (v:=?_) rfl (by kernel_rfl) (by kernel_rfl) (by kernel_rfl) (fun _ _ _ h=>h) (Or.inl ⟨by rfl,?_⟩) hHeld ?_;rotate_left 1
   ·(intro w hSw;(try dsimp only at hSw);go_simp;try with_reducible rfl)
   try simp only[Act.put,List.getElem_toArray,List.getElem_cons_zero,List.getElem_cons_succ,List.setIfInBounds_toArray,List.set_cons_zero,List.set_cons_succ]
   refine wpAnyH_take (i:=12) (v:=?_) rfl (by kernel_rfl) (by kernel_rfl) (by kernel_rfl) (fun _ _ _ h=>h) (Or.inl ⟨by rfl,?_⟩) hHeld ?_;rotate_left 1
   ·(intro w hSw;(try dsimp only at hSw);go_simp;try with_reducible rfl)
   try simp only[Act.put,List.getElem_toArray,List.getElem_cons_zero,List.getElem_cons_succ,List.setIfInBounds_toArray,List.set_cons_zero,List.set_cons_succ]
   refine wpAnyH_take (i:=13) (v:=?_) rfl (by kernel_rfl) (by kernel_rfl) (by kernel_rfl) (fun _ _ _ h=>h) (Or.inl ⟨by rfl,?_⟩) hHeld ?_;rotate_left 1
   ·(intro w hSw;(try dsimp only at hSw);go_simp;try with_reducible rfl)
   try simp only[Act.put,List.getElem_toArray,List.getElem_cons_zero,List.getElem_cons_succ,List.setIfInBounds_toArray,List.set_cons_zero,List.set_cons_succ]
   refine wpAnyH_take (i:=14) (v:=?_) rfl (by kernel_rfl) (by kernel_rfl) (by kernel_rfl) (fun _ _ _ h=>h) (Or.inl ⟨by rfl,?_⟩) hHeld ?_;rotate_left 1
   ·(intro w hSw;obtain⟨q2,q3,q4,q5,q6,q7,q8,q9⟩:=hSw;go_simp;try with_reducible rfl)
   try simp only[Act.put,List.getElem_toArray,List.getElem_cons_zero,List.getElem_cons_succ,List.setIfInBounds_toArray,List.set_cons_zero,List.set_cons_succ]
   refine wpAnyH_take (i:=15) (v:=?_) rfl (by kernel_rfl) (by kernel_rfl) (by kernel_rfl) (fun _ _ _ h=>h) (Or.inl ⟨by rfl,?_⟩) hHeld ?_;rotate_left 1
   ·(intro w hSw;(try dsimp only at hSw);go_simp;try with_reducible rfl)
   try simp only[Act.put,List.getElem_toArray,List.getElem_cons_zero,List.getElem_cons_succ,List.setIfInBounds_toArray,List.set_cons_zero,List.set_cons_succ]
   refine wpAnyH_ready (rs:=[16]) (by kernel_rfl) (by simp) (AllReadyH.cons rfl (fun K hK=>?_) AllReadyH.nil);clear hHeld
   go_simp
   have HBA:Hid (Blk (w1.alloc (.cells [I 0,I 0,I 0,.string E0,I 0,I 0,I 0,.string E0,I 0,I 0,I 0,.string E0].toArray 36)).drew w1.heap.size 36 [I 0,I 0,I 0,.string E0,I 0,I 0,I 0,.string E0,I 0,I 0,I 0,.string E0]):=(Blk.new w1 [I 0,I 0,I 0,.string E0,I 0,I 0,I 0,.string E0,I 0,I 0,I 0,.string E0] 36).drew;have HGA:Hid (G w1 (w1.alloc (.cells [I 0,I 0,I 0,.string E0,I 0,I 0,I 0,.string E0,I 0,I 0,I 0,.string E0].toArray 36)).drew):=((G.refl w1).alloc _).drew;generalize (w1.alloc (.cells [I 0,I 0,I 0,.string E0,I 0,I 0,I 0,.string E0,I 0,I 0,I 0,.string E0].toArray 36)).drew=w2 at HBA HGA⊢;refine hK.out _ _ (HS9.out _ HGA.out) (fun hHeld=>?_);clear hK K
   try simp only[Act.put,List.getElem_toArray,List.getElem_cons_zero,List.getElem_cons_succ,List.setIfInBounds_toArray,List.set_cons_zero,List.set_cons_succ]
   refine wpAnyH_ready (rs:=[17]) (by kernel_rfl) (by simp) (AllReadyH.cons rfl (fun K hK=>?_) AllReadyH.nil);clear hHeld;refine wp_store_mid 36 _ _ rfl w1.heap.size 0 [I k,I a,I b0,.string s,I k',I a',I b',.string s',I k,I a,I b0,.string s].toArray rfl rfl (HBA.out.there 0 12 (by simp)) zOv (zN7 (fun v hv=>by simp at hv;rcases hv with rfl|rfl|rfl|rfl|rfl|rfl|rfl|rfl|rfl|rfl|rfl|rfl<;>rfl)) ?_;have HBV:Hid (Blk (w2.setCells w1.heap.size 0 [I k,I a,I b0,.string s,I k',I a',I b',.string s',I k,I a,I b0,.string s]) w1.heap.size 36 [I k,I a,I b0,.string s,I k',I a',I b',.string s',I k,I a,I b0,.string s]):=HBA.out.sets [I k,I a,I b0,.string s,I k',I a',I b',.string s',I k,I a,I b0,.string s] 0 (by simp);have HGV:Hid (G w1 (w2.setCells w1.heap.size 0 [I k,I a,I b0,.string s,I k',I a',I b',.string s',I k,I a,I b0,.string s])):=G.setCellsY _ HGA.out (Nat.le_refl _);generalize w2.setCells w1.heap.size 0 [I k,I a,I b0,.string s,I k',I a',I b',.string s',I k,I a,I b0,.string s]=w3 at HBV HGV⊢;refine hK.out _ _ (HS9.out _ HGV.out) (fun hHeld=>?_);clear hK K
   try simp only[Act.put,List.getElem_toArray,List.getElem_cons_zero,List.getElem_cons_succ]
   refine wpAnyH_done (by kernel_rfl) ?_ _;refine NoPanic.normal ?_
   go_wp2_with fail
   have HEB:Hid (Blk (w3.alloc (.cells #[I 0,I 0,I 0] 38)) w3.heap.size 38 [I 0,I 0,I 0]):=Blk.new w3 [I 0,I 0,I 0] 38;have HGE:Hid (G w1 (w3.alloc (.cells #[I 0,I 0,I 0] 38))):=HGV.out.alloc _;have HBV0:=hidY (HBV.out.G ((G.refl w3).alloc (.cells #[I 0,I 0,I 0] 38)));have HSZ:Hid (w.heap.size<w1.heap.size∧w1.heap.size≤w3.heap.size):=⟨HB1.out.b.lt,HGV.out.size⟩
   have hne1:¬(w3.heap.size=w.heap.size):=by have:=HSZ.out;omega
   have hne2:¬(w.heap.size=w3.heap.size):=by have:=HSZ.out;omega
   generalize w3.alloc (.cells #[I 0,I 0,I 0] 38)=wc0 at HEB HGE HBV0⊢;have HBB0:=hidY (HB1.out.G HGE.out);have HGG0:=hidY (HG1.out.trans HGE.out);have HEB0:=hidY HEB.out;clear HEB HBV HGV HS9 HBA HGA HX1 HGE;refine wp_loop_rounds 4 ?_;rw[rounds_succ];have hcv:=HBV0.out.cell
   go_wp2_with fail
   refine(HC1.out.2.1 _ (HT.out.G HGG0.out)).mono ?_;rintro e' va0 ⟨x0,rfl,hbw⟩
   obtain⟨xa0,xc0,ex0⟩:∃a c,x0=.slice a xs1.length c:=by
    rcases hbw.at with ⟨e1,e2⟩|⟨g,c,e1,_⟩
    ·exact⟨none,0,by rw[e1,e2];rfl⟩
    ·exact⟨_,_,e1⟩
   subst ex0;have HNW:Hid (∀g,((.slice xa0 xs1.length xc0):Value).ownBlock=some g→wc0.heap.size≤g):=fun g hg=>(World.ownsRow.lt hbw.own g hg).1;have HBW0:=hidY (hbw.down HGG0.out);have HGW:=hidY hbw.g;have HBB:=hidY (HBB0.out.G hbw.g);have HG6:Hid (G va0 (va0.alloc (.cells #[.slice xa0 xs1.length xc0] 33))):=(G.refl va0).alloc _;clear hbw hcv;obtain⟨i0,hi0,hz0,hz1,hz2⟩:=zNq;obtain⟨v7,w7,hrun,hrow7,hap7⟩:=zEi (P:=prog) (va0.alloc (.cells #[.slice xa0 xs1.length xc0] 33)) w.heap.size 26 26 33 i0 _ 1 24 underlying26 hi0 hz0 hz1 hz2 rfl (by decide) (.slice la N lc) (N) ((List.range (N)).map X) (HBB.out.G HG6.out).l ⟨va0.heap.size,0,none⟩ 1 [(.slice xa0 xs1.length xc0)] rfl (cell_one_new va0 (.slice xa0 xs1.length xc0) 33) (fun u hu=>by simp at hu;subst hu;rfl) (by unfold maxLen;omega) (by omega) (by have:=HGG0.out.size;have:=HGW.out.size;have:=HG6.out.size;omega);obtain⟨gq0,cq0,rfl⟩:=zB8 hrow7 (by omega);have HRUN:=hidY hrun;have HAP:Hid (Ap (va0.alloc (.cells #[.slice xa0 xs1.length xc0] 33)) w7 (.slice la N lc) (.slice (some ⟨gq0,0,none⟩) (N+1) cq0)):=⟨hap7⟩;have HNB:Hid (¬(((.slice la N lc):Value).ownBlock=some w.heap.size)):=zDV (HBB.out.G HG6.out).l (HBB.out.G HG6.out).b (by decide);have HPU:=hidY ((HBB.out.G HG6.out).push (by omega) hrow7 ⟨hap7⟩ (zYJ HBW0.out.own HG6.out) HC1.out.1 (fun t g ht hg e=>by have h1:=HNW.out g e;have h2:=(HBB0.out.k t g ht hg).2.lt;omega))
   have HTE:Hid (∀g,TyB (va0.alloc (.cells #[.slice xa0 xs1.length xc0] 33)) g 38∨TyB (va0.alloc (.cells #[.slice xa0 xs1.length xc0] 33)) g 36→¬(g=w.heap.size∨((.slice la N lc):Value).ownBlock=some g)):=fun g hg e=>by
    rcases e with e|e
    ·rcases hg with hg|hg
     iterate 2
      ·exact zAT hg ⟨_,_,(HBB.out.G HG6.out).b.h⟩ (by decide) e
    ·rcases hg with hg|hg
     iterate 2
      ·exact zAT hg (zAB (HBB.out.G HG6.out).l e) (by decide) rfl
   have HE6:=hidY ((HEB0.out.G HGW.out).G HG6.out);have HV6:=hidY ((HBV0.out.G HGW.out).G HG6.out);have HE7:=hidY (HE6.out.chg HAP.out.chg (fun e=>HTE.out _ (.inl ⟨_,_,HE6.out.h⟩) (.inr e)));have hcb:va0.cell? ⟨w.heap.size,0,none⟩=some (.slice la N lc):=HBB.out.b.cell 0;have hc7:=((HBB.out.b.G HG6.out).chg HAP.out.chg HNB.out).cell;have hz7:=((HBB.out.b.G HG6.out).chg HAP.out.chg HNB.out).frozen;have hce7:=HE7.out.cell;have hze7:=HE7.out.frozen;clear hrow7 hap7 hrun hi0 hz0 hz1 hz2
   go_wp2_with (first|(at_builtin;refine zAX rfl _ _ 26 rfl (.slice la N lc) (.slice (some ⟨va0.heap.size,0,none⟩) 1 1) rfl rfl HRUN.out ?_)|fail)
   clear hcb hc7 hz7 hce7 hze7 HRUN;have HCE:Hid (Chg (fun j=>j=w3.heap.size) (w7.setCell ⟨w.heap.size,0,none⟩ (.slice (some ⟨gq0,0,none⟩) (N+1) cq0)) ((w7.setCell ⟨w.heap.size,0,none⟩ (.slice (some ⟨gq0,0,none⟩) (N+1) cq0)).setCell ⟨w3.heap.size,0,none⟩ (I c1))):=zBp _ _ (.inl rfl);have HE8:=hidY ((HE6.out.chg HPU.out.2 (HTE.out _ (.inl ⟨_,_,HE6.out.h⟩))).set 0 (I c1));have HV8:=hidY ((HV6.out.chg HPU.out.2 (HTE.out _ (.inr ⟨_,_,HV6.out.h⟩))).chg HCE.out (fun e=>(HV6.out.ne HE6.out (by decide)) e))
   have HN8:Hid (∀g,TyB (w7.setCell ⟨w.heap.size,0,none⟩ (.slice (some ⟨gq0,0,none⟩) (N+1) cq0)) g 5∨TyB (w7.setCell ⟨w.heap.size,0,none⟩ (.slice (some ⟨gq0,0,none⟩) (N+1) cq0)) g 33∨TyB (w7.setCell ⟨w.heap.size,0,none⟩ (.slice (some ⟨gq0,0,none⟩) (N+1) cq0)) g 28→¬g=w3.heap.size):=fun g hg e=>by
    have h9:TyB (w7.setCell ⟨w.heap.size,0,none⟩ (.slice (some ⟨gq0,0,none⟩) (N+1) cq0)) w3.heap.size 38:=⟨_,_,(HE6.out.chg HPU.out.2 (HTE.out _ (.inl ⟨_,_,HE6.out.h⟩))).h⟩
    rcases hg with hg|hg|hg
    iterate 3
     ·exact zAT hg h9 (by decide) e
   have HB8:=hidY (HPU.out.1.chg HCE.out (HN8.out _ (.inr (.inr ⟨_,_,HPU.out.1.b.h⟩))) (fun g hg=>HN8.out g (.inr (.inl (zAB HPU.out.1.l hg)))) (fun t g ht hg=>HN8.out g (.inl (HPU.out.1.k t g ht hg).2)));have HC9:Hid (Chg (fun j=>(j=w.heap.size∨((.slice la N lc):Value).ownBlock=some j)∨j=w3.heap.size) va0 ((w7.setCell ⟨w.heap.size,0,none⟩ (.slice (some ⟨gq0,0,none⟩) (N+1) cq0)).setCell ⟨w3.heap.size,0,none⟩ (I c1))):=(HG6.out.chg.trans (HPU.out.2.mono (fun j hj=>.inl hj))).trans (HCE.out.mono (fun j hj=>.inr hj))
   have HG8:Hid (G w ((w7.setCell ⟨w.heap.size,0,none⟩ (.slice (some ⟨gq0,0,none⟩) (N+1) cq0)).setCell ⟨w3.heap.size,0,none⟩ (I c1))):=by
    refine(HGG0.out.trans HGW.out).trans2Y (HC9.out.mono (fun j hj=>?_))
    rcases hj with (hj|hj)|hj
    ·omega
    ·exact(World.ownsRow.lt HBB.out.l j hj).1
    ·have:=HSZ.out;omega
   have HO8:Hid (∀g,TyB va0 g 5→¬((g=w.heap.size∨((.slice la N lc):Value).ownBlock=some g)∨g=w3.heap.size)):=fun g hg e=>by
    rcases e with (e|e)|e
    ·exact zAT hg ⟨_,_,HBB.out.b.h⟩ (by decide) e
    ·exact zAT hg (zAB HBB.out.l e) (by decide) rfl
    ·exact zAT hg ⟨_,_,(HEB0.out.G HGW.out).h⟩ (by decide) e
   have HBW0_0:Hid (Bw w ((w7.setCell ⟨w.heap.size,0,none⟩ (.slice (some ⟨gq0,0,none⟩) (N+1) cq0)).setCell ⟨w3.heap.size,0,none⟩ (I c1)) (.slice xa0 xs1.length xc0) xs1):=⟨HG8.out,zBl HBW0.out.own HC9.out (fun g hg=>HO8.out g (zAB HBW0.out.own hg))⟩;clear HPU HCE HN8 HC9 HO8 HE6 HV6 HE7 HTE HNB HAP HG6 HNW HBB HGW HBB0 HGG0 HEB0 HBV0 HBW0;have HBB1:=hidY HB8.out;have HGG1:=hidY HG8.out;have HEB1:=hidY HE8.out;have HBV1:=hidY HV8.out;clear HB8 HG8 HE8 HV8;generalize ((w7.setCell ⟨w.heap.size,0,none⟩ (.slice (some ⟨gq0,0,none⟩) (N+1) cq0)).setCell ⟨w3.heap.size,0,none⟩ (I c1))=wc1 at HBB1 HGG1 HEB1 HBV1 HBW0_0⊢;rw[rounds_succ];have hcv:=HBV1.out.cell
   go_wp2_with fail
   refine(HC2.out.2.1 _ (HT.out.G HGG1.out)).mono ?_;rintro e' va1 ⟨x1,rfl,hbw⟩
   obtain⟨xa1,xc1,ex1⟩:∃a c,x1=.slice a xs2.length c:=by
    rcases hbw.at with ⟨e1,e2⟩|⟨g,c,e1,_⟩
    ·exact⟨none,0,by rw[e1,e2];rfl⟩
    ·exact⟨_,_,e1⟩
   subst ex1;have HNW:Hid (∀g,((.slice xa1 xs2.length xc1):Value).ownBlock=some g→wc1.heap.size≤g):=fun g hg=>(World.ownsRow.lt hbw.own g hg).1;have HBW1:=hidY (hbw.down HGG1.out);have HGW:=hidY hbw.g;have HBB:=hidY (HBB1.out.G hbw.g);have HG6:Hid (G va1 (va1.alloc (.cells #[.slice xa1 xs2.length xc1] 33))):=(G.refl va1).alloc _;clear hbw hcv;obtain⟨i0,hi0,hz0,hz1,hz2⟩:=zNq;obtain⟨v7,w7,hrun,hrow7,hap7⟩:=zEi (P:=prog) (va1.alloc (.cells #[.slice xa1 xs2.length xc1] 33)) w.heap.size 26 26 33 i0 _ 1 24 underlying26 hi0 hz0 hz1 hz2 rfl (by decide) (.slice (some ⟨gq0,0,none⟩) (N+1) cq0) (N+1) ((List.range (N+1)).map (upd X (N) (.slice xa0 xs1.length xc0))) (HBB.out.G HG6.out).l ⟨va1.heap.size,0,none⟩ 1 [(.slice xa1 xs2.length xc1)] rfl (cell_one_new va1 (.slice xa1 xs2.length xc1) 33) (fun u hu=>by simp at hu;subst hu;rfl) (by unfold maxLen;omega) (by omega) (by have:=HGG1.out.size;have:=HGW.out.size;have:=HG6.out.size;omega);obtain⟨gq1,cq1,rfl⟩:=zB8 hrow7 (by omega);have HRUN:=hidY hrun;have HAP:Hid (Ap (va1.alloc (.cells #[.slice xa1 xs2.length xc1] 33)) w7 (.slice (some ⟨gq0,0,none⟩) (N+1) cq0) (.slice (some ⟨gq1,0,none⟩) (N+1+1) cq1)):=⟨hap7⟩;have HNB:Hid (¬(((.slice (some ⟨gq0,0,none⟩) (N+1) cq0):Value).ownBlock=some w.heap.size)):=zDV (HBB.out.G HG6.out).l (HBB.out.G HG6.out).b (by decide);have HPU:=hidY ((HBB.out.G HG6.out).push (by omega) hrow7 ⟨hap7⟩ (zYJ HBW1.out.own HG6.out) HC2.out.1 (fun t g ht hg e=>by have h1:=HNW.out g e;have h2:=(HBB1.out.k t g ht hg).2.lt;omega))
   have HTE:Hid (∀g,TyB (va1.alloc (.cells #[.slice xa1 xs2.length xc1] 33)) g 38∨TyB (va1.alloc (.cells #[.slice xa1 xs2.length xc1] 33)) g 36→¬(g=w.heap.size∨((.slice (some ⟨gq0,0,none⟩) (N+1) cq0):Value).ownBlock=some g)):=fun g hg e=>by
    rcases e with e|e
    ·rcases hg with hg|hg
     iterate 2
      ·exact zAT hg ⟨_,_,(HBB.out.G HG6.out).b.h⟩ (by decide) e
    ·rcases hg with hg|hg
     iterate 2
      ·exact zAT hg (zAB (HBB.out.G HG6.out).l e) (by decide) rfl
   have HE6:=hidY ((HEB1.out.G HGW.out).G HG6.out);have HV6:=hidY ((HBV1.out.G HGW.out).G HG6.out);have HE7:=hidY (HE6.out.chg HAP.out.chg (fun e=>HTE.out _ (.inl ⟨_,_,HE6.out.h⟩) (.inr e)));have hcb:va1.cell? ⟨w.heap.size,0,none⟩=some (.slice (some ⟨gq0,0,none⟩) (N+1) cq0):=HBB.out.b.cell 0;have hc7:=((HBB.out.b.G HG6.out).chg HAP.out.chg HNB.out).cell;have hz7:=((HBB.out.b.G HG6.out).chg HAP.out.chg HNB.out).frozen;have hce7:=HE7.out.cell;have hze7:=HE7.out.frozen;clear hrow7 hap7 hrun hi0 hz0 hz1 hz2
   go_wp2_with (first|(at_builtin;refine zAX rfl _ _ 26 rfl (.slice (some ⟨gq0,0,none⟩) (N+1) cq0) (.slice (some ⟨va1.heap.size,0,none⟩) 1 1) rfl rfl HRUN.out ?_)|fail)
   clear hcb hc7 hz7 hce7 hze7 HRUN;have HCE:Hid (Chg (fun j=>j=w3.heap.size) (w7.setCell ⟨w.heap.size,0,none⟩ (.slice (some ⟨gq1,0,none⟩) (N+1+1) cq1)) ((w7.setCell ⟨w.heap.size,0,none⟩ (.slice (some ⟨gq1,0,none⟩) (N+1+1) cq1)).setCell ⟨w3.heap.size,1,none⟩ (I c2))):=zBp _ _ (.inl rfl);have HE8:=hidY ((HE6.out.chg HPU.out.2 (HTE.out _ (.inl ⟨_,_,HE6.out.h⟩))).set 1 (I c2));have HV8:=hidY ((HV6.out.chg HPU.out.2 (HTE.out _ (.inr ⟨_,_,HV6.out.h⟩))).chg HCE.out (fun e=>(HV6.out.ne HE6.out (by decide)) e))
   have HN8:Hid (∀g,TyB (w7.setCell ⟨w.heap.size,0,none⟩ (.slice (some ⟨gq1,0,none⟩) (N+1+1) cq1)) g 5∨TyB (w7.setCell ⟨w.heap.size,0,none⟩ (.slice (some ⟨gq1,0,none⟩) (N+1+1) cq1)) g 33∨TyB (w7.setCell ⟨w.heap.size,0,none⟩ (.slice (some ⟨gq1,0,none⟩) (N+1+1) cq1)) g 28→¬g=w3.heap.size):=fun g hg e=>by
    have h9:TyB (w7.setCell ⟨w.heap.size,0,none⟩ (.slice (some ⟨gq1,0,none⟩) (N+1+1) cq1)) w3.heap.size 38:=⟨_,_,(HE6.out.chg HPU.out.2 (HTE.out _ (.inl ⟨_,_,HE6.out.h⟩))).h⟩
    rcases hg with hg|hg|hg
    iterate 3
     ·exact zAT hg h9 (by decide) e
   have HB8:=hidY (HPU.out.1.chg HCE.out (HN8.out _ (.inr (.inr ⟨_,_,HPU.out.1.b.h⟩))) (fun g hg=>HN8.out g (.inr (.inl (zAB HPU.out.1.l hg)))) (fun t g ht hg=>HN8.out g (.inl (HPU.out.1.k t g ht hg).2)));have HC9:Hid (Chg (fun j=>(j=w.heap.size∨((.slice (some ⟨gq0,0,none⟩) (N+1) cq0):Value).ownBlock=some j)∨j=w3.heap.size) va1 ((w7.setCell ⟨w.heap.size,0,none⟩ (.slice (some ⟨gq1,0,none⟩) (N+1+1) cq1)).setCell ⟨w3.heap.size,1,none⟩ (I c2))):=(HG6.out.chg.trans (HPU.out.2.mono (fun j hj=>.inl hj))).trans (HCE.out.mono (fun j hj=>.inr hj))
   have HG8:Hid (G w ((w7.setCell ⟨w.heap.size,0,none⟩ (.slice (some ⟨gq1,0,none⟩) (N+1+1) cq1)).setCell ⟨w3.heap.size,1,none⟩ (I c2))):=by
    refine(HGG1.out.trans HGW.out).trans2Y (HC9.out.mono (fun j hj=>?_))
    rcases hj with (hj|hj)|hj
    ·omega
    ·exact(World.ownsRow.lt HBB.out.l j hj).1
    ·have:=HSZ.out;omega
   have HO8:Hid (∀g,TyB va1 g 5→¬((g=w.heap.size∨((.slice (some ⟨gq0,0,none⟩) (N+1) cq0):Value).ownBlock=some g)∨g=w3.heap.size)):=fun g hg e=>by
    rcases e with (e|e)|e
    ·exact zAT hg ⟨_,_,HBB.out.b.h⟩ (by decide) e
    ·exact zAT hg (zAB HBB.out.l e) (by decide) rfl
    ·exact zAT hg ⟨_,_,(HEB1.out.G HGW.out).h⟩ (by decide) e
   have HBW0_1:Hid (Bw w ((w7.setCell ⟨w.heap.size,0,none⟩ (.slice (some ⟨gq1,0,none⟩) (N+1+1) cq1)).setCell ⟨w3.heap.size,1,none⟩ (I c2)) (.slice xa0 xs1.length xc0) xs1):=⟨HG8.out,zBl (zYJ HBW0_0.out.own HGW.out) HC9.out (fun g hg=>HO8.out g (zAB (zYJ HBW0_0.out.own HGW.out) hg))⟩;have HBW1_1:Hid (Bw w ((w7.setCell ⟨w.heap.size,0,none⟩ (.slice (some ⟨gq1,0,none⟩) (N+1+1) cq1)).setCell ⟨w3.heap.size,1,none⟩ (I c2)) (.slice xa1 xs2.length xc1) xs2):=⟨HG8.out,zBl HBW1.out.own HC9.out (fun g hg=>HO8.out g (zAB HBW1.out.own hg))⟩;clear HPU HCE HN8 HC9 HO8 HE6 HV6 HE7 HTE HNB HAP HG6 HNW HBB HGW HBB1 HGG1 HEB1 HBV1 HBW1 HBW0_0;have HBB2:=hidY HB8.out;have HGG2:=hidY HG8.out;have HEB2:=hidY HE8.out;have HBV2:=hidY HV8.out;clear HB8 HG8 HE8 HV8;generalize ((w7.setCell ⟨w.heap.size,0,none⟩ (.slice (some ⟨gq1,0,none⟩) (N+1+1) cq1)).setCell ⟨w3.heap.size,1,none⟩ (I c2))=wc2 at HBB2 HGG2 HEB2 HBV2 HBW0_1 HBW1_1⊢;rw[rounds_succ];have hcv:=HBV2.out.cell
   go_wp2_with fail
   refine(HC1.out.2.1 _ (HT.out.G HGG2.out)).mono ?_;rintro e' va2 ⟨x2,rfl,hbw⟩
   obtain⟨xa2,xc2,ex2⟩:∃a c,x2=.slice a xs1.length c:=by
    rcases hbw.at with ⟨e1,e2⟩|⟨g,c,e1,_⟩
    ·exact⟨none,0,by rw[e1,e2];rfl⟩
    ·exact⟨_,_,e1⟩
   subst ex2;have HNW:Hid (∀g,((.slice xa2 xs1.length xc2):Value).ownBlock=some g→wc2.heap.size≤g):=fun g hg=>(World.ownsRow.lt hbw.own g hg).1;have HBW2:=hidY (hbw.down HGG2.out);have HGW:=hidY hbw.g;have HBB:=hidY (HBB2.out.G hbw.g);have HG6:Hid (G va2 (va2.alloc (.cells #[.slice xa2 xs1.length xc2] 33))):=(G.refl va2).alloc _;clear hbw hcv;obtain⟨i0,hi0,hz0,hz1,hz2⟩:=zNq;obtain⟨v7,w7,hrun,hrow7,hap7⟩:=zEi (P:=prog) (va2.alloc (.cells #[.slice xa2 xs1.length xc2] 33)) w.heap.size 26 26 33 i0 _ 1 24 underlying26 hi0 hz0 hz1 hz2 rfl (by decide) (.slice (some ⟨gq1,0,none⟩) (N+1+1) cq1) (N+1+1) ((List.range (N+1+1)).map (upd (upd X (N) (.slice xa0 xs1.length xc0)) (N+1) (.slice xa1 xs2.length xc1))) (HBB.out.G HG6.out).l ⟨va2.heap.size,0,none⟩ 1 [(.slice xa2 xs1.length xc2)] rfl (cell_one_new va2 (.slice xa2 xs1.length xc2) 33) (fun u hu=>by simp at hu;subst hu;rfl) (by unfold maxLen;omega) (by omega) (by have:=HGG2.out.size;have:=HGW.out.size;have:=HG6.out.size;omega);obtain⟨gq2,cq2,rfl⟩:=zB8 hrow7 (by omega);have HRUN:=hidY hrun;have HAP:Hid (Ap (va2.alloc (.cells #[.slice xa2 xs1.length xc2] 33)) w7 (.slice (some ⟨gq1,0,none⟩) (N+1+1) cq1) (.slice (some ⟨gq2,0,none⟩) (N+1+1+1) cq2)):=⟨hap7⟩;have HNB:Hid (¬(((.slice (some ⟨gq1,0,none⟩) (N+1+1) cq1):Value).ownBlock=some w.heap.size)):=zDV (HBB.out.G HG6.out).l (HBB.out.G HG6.out).b (by decide);have HPU:=hidY ((HBB.out.G HG6.out).push (by omega) hrow7 ⟨hap7⟩ (zYJ HBW2.out.own HG6.out) HC1.out.1 (fun t g ht hg e=>by have h1:=HNW.out g e;have h2:=(HBB2.out.k t g ht hg).2.lt;omega))
   have HTE:Hid (∀g,TyB (va2.alloc (.cells #[.slice xa2 xs1.length xc2] 33)) g 38∨TyB (va2.alloc (.cells #[.slice xa2 xs1.length xc2] 33)) g 36→¬(g=w.heap.size∨((.slice (some ⟨gq1,0,none⟩) (N+1+1) cq1):Value).ownBlock=some g)):=fun g hg e=>by
    rcases e with e|e
    ·rcases hg with hg|hg
     iterate 2
      ·exact zAT hg ⟨_,_,(HBB.out.G HG6.out).b.h⟩ (by decide) e
    ·rcases hg with hg|hg
     iterate 2
      ·exact zAT hg (zAB (HBB.out.G HG6.out).l e) (by decide) rfl
   have HE6:=hidY ((HEB2.out.G HGW.out).G HG6.out);have HV6:=hidY ((HBV2.out.G HGW.out).G HG6.out);have HE7:=hidY (HE6.out.chg HAP.out.chg (fun e=>HTE.out _ (.inl ⟨_,_,HE6.out.h⟩) (.inr e)));have hcb:va2.cell? ⟨w.heap.size,0,none⟩=some (.slice (some ⟨gq1,0,none⟩) (N+1+1) cq1):=HBB.out.b.cell 0;have hc7:=((HBB.out.b.G HG6.out).chg HAP.out.chg HNB.out).cell;have hz7:=((HBB.out.b.G HG6.out).chg HAP.out.chg HNB.out).frozen;have hce7:=HE7.out.cell;have hze7:=HE7.out.frozen;clear hrow7 hap7 hrun hi0 hz0 hz1 hz2
   go_wp2_with (first|(at_builtin;refine zAX rfl _ _ 26 rfl (.slice (some ⟨gq1,0,none⟩) (N+1+1) cq1) (.slice (some ⟨va2.heap.size,0,none⟩) 1 1) rfl rfl HRUN.out ?_)|fail)
   clear hcb hc7 hz7 hce7 hze7 HRUN;have HCE:Hid (Chg (fun j=>j=w3.heap.size) (w7.setCell ⟨w.heap.size,0,none⟩ (.slice (some ⟨gq2,0,none⟩) (N+1+1+1) cq2)) ((w7.setCell ⟨w.heap.size,0,none⟩ (.slice (some ⟨gq2,0,none⟩) (N+1+1+1) cq2)).setCell ⟨w3.heap.size,2,none⟩ (I c1))):=zBp _ _ (.inl rfl);have HE8:=hidY ((HE6.out.chg HPU.out.2 (HTE.out _ (.inl ⟨_,_,HE6.out.h⟩))).set 2 (I c1));have HV8:=hidY ((HV6.out.chg HPU.out.2 (HTE.out _ (.inr ⟨_,_,HV6.out.h⟩))).chg HCE.out (fun e=>(HV6.out.ne HE6.out (by decide)) e))
   have HN8:Hid (∀g,TyB (w7.setCell ⟨w.heap.size,0,none⟩ (.slice (some ⟨gq2,0,none⟩) (N+1+1+1) cq2)) g 5∨TyB (w7.setCell ⟨w.heap.size,0,none⟩ (.slice (some ⟨gq2,0,none⟩) (N+1+1+1) cq2)) g 33∨TyB (w7.setCell ⟨w.heap.size,0,none⟩ (.slice (some ⟨gq2,0,none⟩) (N+1+1+1) cq2)) g 28→¬g=w3.heap.size):=fun g hg e=>by
    have h9:TyB (w7.setCell ⟨w.heap.size,0,none⟩ (.slice (some ⟨gq2,0,none⟩) (N+1+1+1) cq2)) w3.heap.size 38:=⟨_,_,(HE6.out.chg HPU.out.2 (HTE.out _ (.inl ⟨_,_,HE6.out.h⟩))).h⟩
    rcases hg with hg|hg|hg
    iterate 3
     ·exact zAT hg h9 (by decide) e
   have HB8:=hidY (HPU.out.1.chg HCE.out (HN8.out _ (.inr (.inr ⟨_,_,HPU.out.1.b.h⟩))) (fun g hg=>HN8.out g (.inr (.inl (zAB HPU.out.1.l hg)))) (fun t g ht hg=>HN8.out g (.inl (HPU.out.1.k t g ht hg).2)));have HC9:Hid (Chg (fun j=>(j=w.heap.size∨((.slice (some ⟨gq1,0,none⟩) (N+1+1) cq1):Value).ownBlock=some j)∨j=w3.heap.size) va2 ((w7.setCell ⟨w.heap.size,0,none⟩ (.slice (some ⟨gq2,0,none⟩) (N+1+1+1) cq2)).setCell ⟨w3.heap.size,2,none⟩ (I c1))):=(HG6.out.chg.trans (HPU.out.2.mono (fun j hj=>.inl hj))).trans (HCE.out.mono (fun j hj=>.inr hj))
   have HG8:Hid (G w ((w7.setCell ⟨w.heap.size,0,none⟩ (.slice (some ⟨gq2,0,none⟩) (N+1+1+1) cq2)).setCell ⟨w3.heap.size,2,none⟩ (I c1))):=by
    refine(HGG2.out.trans HGW.out).trans2Y (HC9.out.mono (fun j hj=>?_))
    rcases hj with (hj|hj)|hj
    ·omega
    ·exact(World.ownsRow.lt HBB.out.l j hj).1
    ·have:=HSZ.out;omega
   have HO8:Hid (∀g,TyB va2 g 5→¬((g=w.heap.size∨((.slice (some ⟨gq1,0,none⟩) (N+1+1) cq1):Value).ownBlock=some g)∨g=w3.heap.size)):=fun g hg e=>by
    rcases e with (e|e)|e
    ·exact zAT hg ⟨_,_,HBB.out.b.h⟩ (by decide) e
    ·exact zAT hg (zAB HBB.out.l e) (by decide) rfl
    ·exact zAT hg ⟨_,_,(HEB2.out.G HGW.out).h⟩ (by decide) e
   have HBW0_2:Hid (Bw w ((w7.setCell ⟨w.heap.size,0,none⟩ (.slice (some ⟨gq2,0,none⟩) (N+1+1+1) cq2)).setCell ⟨w3.heap.size,2,none⟩ (I c1)) (.slice xa0 xs1.length xc0) xs1):=⟨HG8.out,zBl (zYJ HBW0_1.out.own HGW.out) HC9.out (fun g hg=>HO8.out g (zAB (zYJ HBW0_1.out.own HGW.out) hg))⟩;have HBW1_2:Hid (Bw w ((w7.setCell ⟨w.heap.size,0,none⟩ (.slice (some ⟨gq2,0,none⟩) (N+1+1+1) cq2)).setCell ⟨w3.heap.size,2,none⟩ (I c1)) (.slice xa1 xs2.length xc1) xs2):=⟨HG8.out,zBl (zYJ HBW1_1.out.own HGW.out) HC9.out (fun g hg=>HO8.out g (zAB (zYJ HBW1_1.out.own HGW.out) hg))⟩;have HBW2_2:Hid (Bw w ((w7.setCell ⟨w.heap.size,0,none⟩ (.slice (some ⟨gq2,0,none⟩) (N+1+1+1) cq2)).setCell ⟨w3.heap.size,2,none⟩ (I c1)) (.slice xa2 xs1.length xc2) xs1):=⟨HG8.out,zBl HBW2.out.own HC9.out (fun g hg=>HO8.out g (zAB HBW2.out.own hg))⟩;clear HPU HCE HN8 HC9 HO8 HE6 HV6 HE7 HTE HNB HAP HG6 HNW HBB HGW HBB2 HGG2 HEB2 HBV2 HBW2 HBW0_1 HBW1_1;have HBB3:=hidY HB8.out;have HGG3:=hidY HG8.out;have HEB3:=hidY HE8.out;have HBV3:=hidY HV8.out;clear HB8 HG8 HE8 HV8;generalize ((w7.setCell ⟨w.heap.size,0,none⟩ (.slice (some ⟨gq2,0,none⟩) (N+1+1+1) cq2)).setCell ⟨w3.heap.size,2,none⟩ (I c1))=wc3 at HBB3 HGG3 HEB3 HBV3 HBW0_2 HBW1_2 HBW2_2⊢;rw[rounds_succ]
   go_wp2_with fail
   refine wp_loop_rounds 4 ?_;have HD0:=hidY (G.refl wc3)
   have HL3:Hid (∀W,G wc3 W→W.cell? ⟨gq2,N,none⟩=some (.slice xa0 xs1.length xc0)∧W.cell? ⟨gq2,N+1,none⟩=some (.slice xa1 xs2.length xc1)∧W.cell? ⟨gq2,N+1+1,none⟩=some (.slice xa2 xs1.length xc2)):=fun W g=>by
    have hl:=(HBB3.out.G g).l
    have h1:∀j,j<N+1+1+1→W.cell? ⟨gq2,j,none⟩=some ((upd (upd (upd X (N) (.slice xa0 xs1.length xc0)) (N+1) (.slice xa1 xs2.length xc1)) (N+1+1) (.slice xa2 xs1.length xc2)) j):=fun j hj=>by
     obtain⟨g',c',e,h⟩:=hl.cell hj;cases e;exact h
    refine⟨?_,?_,?_⟩
    ·rw[h1 N (by omega)];unfold upd;rw[if_neg (by omega),if_neg (by omega),if_pos rfl]
    ·rw[h1 (N+1) (by omega)];unfold upd;rw[if_neg (by omega),if_pos rfl]
    ·rw[h1 (N+1+1) (by omega)];unfold upd;rw[if_pos rfl]
   rw[rounds_succ];have hcv:=(HBV3.out.G HD0.out).cell
   go_wp2_with fail
   refine(HC1.out.2.2 _).mono ?_;rintro e' we0 ⟨y0,rfl,hg,hrow⟩;have HDE:=hidY (HD0.out.trans hg);have HRY:=hidY hrow;clear hg hrow hcv;have hce:=(HEB3.out.G HDE.out).cell;have hcb:we0.cell? ⟨w.heap.size,0,none⟩=some (.slice (some ⟨gq2,0,none⟩) (N+1+1+1) cq2):=(HBB3.out.G HDE.out).b.cell 0;obtain⟨hl0,hl1,hl2⟩:=HL3.out _ HDE.out
   go_wp2_with fail
   refine(zD8 _ _ xs1 _ (HBW0_2.out.keep HDE.out).row HRY.out HC1.out.1).mono ?_;rintro e' wd1 ⟨rfl,hg⟩;have HD1:=hidY (HDE.out.trans hg);clear hg hce hcb hl0 hl1 hl2 HDE HRY
   go_wp2_with fail
   rw[rounds_succ];have hcv:=(HBV3.out.G HD1.out).cell
   go_wp2_with fail
   refine(HC2.out.2.2 _).mono ?_;rintro e' we1 ⟨y1,rfl,hg,hrow⟩;have HDE:=hidY (HD1.out.trans hg);have HRY:=hidY hrow;clear hg hrow hcv;have hce:=(HEB3.out.G HDE.out).cell;have hcb:we1.cell? ⟨w.heap.size,0,none⟩=some (.slice (some ⟨gq2,0,none⟩) (N+1+1+1) cq2):=(HBB3.out.G HDE.out).b.cell 0;obtain⟨hl0,hl1,hl2⟩:=HL3.out _ HDE.out
   go_wp2_with fail
   refine(zD8 _ _ xs2 _ (HBW1_2.out.keep HDE.out).row HRY.out HC2.out.1).mono ?_;rintro e' wd2 ⟨rfl,hg⟩;have HD2:=hidY (HDE.out.trans hg);clear hg hce hcb hl0 hl1 hl2 HDE HRY
   go_wp2_with fail
   rw[rounds_succ];have hcv:=(HBV3.out.G HD2.out).cell
   go_wp2_with fail
   refine(HC1.out.2.2 _).mono ?_;rintro e' we2 ⟨y2,rfl,hg,hrow⟩;have HDE:=hidY (HD2.out.trans hg);have HRY:=hidY hrow;clear hg hrow hcv;have hce:=(HEB3.out.G HDE.out).cell;have hcb:we2.cell? ⟨w.heap.size,0,none⟩=some (.slice (some ⟨gq2,0,none⟩) (N+1+1+1) cq2):=(HBB3.out.G HDE.out).b.cell 0;obtain⟨hl0,hl1,hl2⟩:=HL3.out _ HDE.out
   go_wp2_with fail
   refine(zD8 _ _ xs1 _ (HBW2_2.out.keep HDE.out).row HRY.out HC1.out.1).mono ?_;rintro e' wd3 ⟨rfl,hg⟩;have HD3:=hidY (HDE.out.trans hg);clear hg hce hcb hl0 hl1 hl2 HDE HRY
   go_wp2_with fail
   rw[rounds_succ]
   go_wp2_with fail
   refine(zNR w.heap.size w.heap.size (N+1+1+1) N (.slice (some ⟨gq2,0,none⟩) (N+1+1+1) cq2) (upd (upd (upd X (N) (.slice xa0 xs1.length xc0)) (N+1) (.slice xa1 xs2.length xc1)) (N+1+1) (.slice xa2 xs1.length xc2)) (fun t=>if t=N+1+1 then xs1.length else(fun t=>if t=N+1 then xs2.length else(fun t=>if t=N then xs1.length else ln t) t) t) (by omega) (by omega) _ (HBB3.out.G HD3.out)).mono ?_;rintro e' wf ⟨rfl,hbf,hcf⟩;have HBF:=hidY hbf;have HGF:=hidY ((HGG3.out.trans HD3.out).trans2Y hcf);clear hbf hcf
   go_wp2_with fail
   refine(zDG w.heap.size w.heap.size (N+1+1+1) (.slice (some ⟨gq2,0,none⟩) (N+1+1+1) cq2) (upd (upd (upd X (N) (.slice xa0 xs1.length xc0)) (N+1) (.slice xa1 xs2.length xc1)) (N+1+1) (.slice xa2 xs1.length xc2)) (fun t=>if t=N+1+1 then xs1.length else(fun t=>if t=N+1 then xs2.length else(fun t=>if t=N then xs1.length else ln t) t) t) (by omega) _ HBF.out).mono ?_;rintro e' wg ⟨rfl,hg9⟩;have HG9:=hidY hg9;clear hg9
   go_wp2
   go_roundw
   case rel=>exact⟨i+1,N+1+1+1,by omega,by have:=HN.out;omega,by go_num,_,_,_,HBF.out.G HG9.out,HGF.out.trans HG9.out⟩
   case measure=>simp[RowKit.intOf];omega
  ·go_wp2_with fail
   refine(zDG w.heap.size w.heap.size N (.slice la N lc) X ln (by omega) _ HB.out).mono ?_;rintro e' w2 ⟨rfl,hg2⟩;have HG2:=hidY (HG.out.trans hg2);clear hg2
   go_wp2
   go_ret;exact⟨rfl,HG2.out⟩
theorem zNT(w:World):CG 5 #[.slice none 0 0] w (.bool true):=by
 have HB0:=hidY (BV.new w (fun _=>.slice none 0 0) (fun _=>0));have HG0:=hidY ((G.refl w).alloc (.cells #[.slice none 0 0] 28))
 go_enter func5,ntmps5
 go_wp2
 refine wp_loop_rounds 1 ?_;rw[rounds_succ];generalize w.alloc (.cells #[.slice none 0 0] 28)=w0 at HB0 HG0⊢
 go_wp2_with fail
 refine(zDG w.heap.size w.heap.size 0 _ _ _ (by omega) _ HB0.out).mono ?_;rintro e' w2 ⟨rfl,hg2⟩;have HG2:=hidY (HG0.out.trans hg2);clear hg2
 go_wp2
 go_ret;exact⟨rfl,HG2.out⟩
end
end Go.Proofs.YthmdjhfbhbheeaaGreatDoor
