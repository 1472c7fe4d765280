import Derived.WalkKit
import Derived.Lib.BitFns
import Derived.Laws.AppendOwn
import Derived.OwnWalk
import Derived.Ground.NamesProg
import Derived.Shelf.Strconv.Itoa0
import Derived.Test.YthmdjhfbhbheeaaGreatDoorProg
import Derived.Laws.MakeOwn
import Derived.Test.YthmdjhfbhbheeaaGreatDoorRt7
namespace Go.Proofs.YthmdjhfbhbheeaaGreatDoor
open Go.Proofs.Tryz
set_option maxHeartbeats 4000000
set_option maxRecDepth 100000
section
open Go.RowKit Go.Lib Go.Shelf
theorem print_both(k a b:Int)(s:ByteArray)(hs:s.size≤4611686018427387904)(ha:R64 a)(hb:R64 b):∃x:ByteArray,(∀w,Env w→Calls prog 55 #[V k a b s] w fun e w'=>e=.returned (.string x)∧G w w')∧(∀w,Calls prog 56 #[V k a b s] w fun e w'=>e=.returned (.string x)∧G w w'):=by
 cases h:okV k a b s with
 | true=>exact⟨_,fun w hE=>print_yes k a b s h ha w hE,fun w=>rprint_yes k a b s h hs ha hb w⟩
 | false=>exact⟨_,fun w hE=>print_no k a b s h w hE,fun w=>rprint_no k a b s h hs w⟩
theorem law_print(op k a b:Int)(s:ByteArray)(k' a' b':Int)(s':ByteArray)(vs:Value)(st tt:ByteArray)(bb:Value)(n x y o1 o2:Int)(hs:s.size≤4611686018427387904)(ha:R64 a)(hb:R64 b)(w:World)(hE:Env w):Calls prog 21 #[.agg #[I 6,I op,I k,I a,I b,.string s,I k',I a',I b',.string s',vs,.string st,.string tt,bb,I n,I x,I y,I o1,I o2]] w fun r w'=>r=.returned (.bool true)∧G w w':=by
 obtain⟨z,h1,h2⟩:=print_both k a b s hs ha hb
 have H1:=hide h1
 have H2:=hide h2
 have HE:=hide hE
 have HG1:=hide ((G.refl w).alloc (.cells #[I 6,I op,I k,I a,I b,.string s,I k',I a',I b',.string s',vs,.string st,.string tt,bb,I n,I x,I y,I o1,I o2] 35))
 have HCC:Hid (∀o,(w.alloc (.cells #[I 6,I op,I k,I a,I b,.string s,I k',I a',I b',.string s',vs,.string st,.string tt,bb,I n,I x,I y,I o1,I o2] 35)).cell? ⟨w.heap.size,o,none⟩=([I 6,I op,I k,I a,I b,.string s,I k',I a',I b',.string s',vs,.string st,.string tt,bb,I n,I x,I y,I o1,I o2]:List Value)[o]?):=fun o=>by simp
 have HZ1:Hid (w.heap.size<(w.alloc (.cells #[I 6,I op,I k,I a,I b,.string s,I k',I a',I b',.string s',vs,.string st,.string tt,bb,I n,I x,I y,I o1,I o2] 35)).heap.size):=by unfold Hid;simp
 clear h1 h2 hE
 go_enter func21,ntmps21
 go_wp2_with fail
 generalize w.alloc (.cells #[I 6,I op,I k,I a,I b,.string s,I k',I a',I b',.string s',vs,.string st,.string tt,bb,I n,I x,I y,I o1,I o2] 35)=w1 at HG1 HCC HZ1⊢
 refine wp_region_noPanic ?_
 refine wp_region_held_drew (S:=(fun W=>∀o,W.cell? ⟨w.heap.size,o,none⟩=([I 6,I op,I k,I a,I b,.string s,I k',I a',I b',.string s',vs,.string st,.string tt,bb,I n,I x,I y,I o1,I o2]:List Value)[o]?)) (by kernel_rfl) (HCC.out) (fun hHeld=>?_)
 refine wpAnyH_take (i:=0) (v:=?_) rfl (by kernel_rfl) (by kernel_rfl) (by kernel_rfl) (fun _ _ _ h=>h) (Or.inl ⟨by rfl,?_⟩) hHeld ?_
 rotate_left 1
 ·(intro w hSw;(try dsimp only at hSw);go_simp;try with_reducible rfl)
 try simp only[Act.put,List.getElem_toArray,List.getElem_cons_zero,List.setIfInBounds_toArray,List.set_cons_zero,List.set_cons_succ]
 refine wpAnyH_take (i:=1) (v:=?_) rfl (by kernel_rfl) (by kernel_rfl) (by kernel_rfl) (fun _ _ _ h=>h) (Or.inl ⟨by rfl,?_⟩) hHeld ?_
 rotate_left 1
 ·(intro w hSw;have q3:=hSw;go_simp;try with_reducible rfl)
 try simp only[Act.put,List.getElem_toArray,List.getElem_cons_zero,List.getElem_cons_succ,List.setIfInBounds_toArray,List.set_cons_zero,List.set_cons_succ]
 refine wpAnyH_take (i:=3) (v:=?_) rfl (by kernel_rfl) (by kernel_rfl) (by kernel_rfl) (fun _ _ _ h=>h) (Or.inl ⟨by rfl,?_⟩) hHeld ?_
 rotate_left 1
 ·(intro w hSw;(try dsimp only at hSw);go_simp;try with_reducible rfl)
 try simp only[Act.put,List.getElem_toArray,List.getElem_cons_zero,List.getElem_cons_succ,List.setIfInBounds_toArray,List.set_cons_zero,List.set_cons_succ]
 refine wpAnyH_take (i:=4) (v:=?_) rfl (by kernel_rfl) (by kernel_rfl) (by kernel_rfl) (fun _ _ _ h=>h) (Or.inl ⟨by rfl,?_⟩) hHeld ?_
 rotate_left 1
 ·(intro w hSw;have q3:=hSw;go_simp;try with_reducible rfl)
 try simp only[Act.put,List.getElem_toArray,List.getElem_cons_zero,List.getElem_cons_succ,List.setIfInBounds_toArray,List.set_cons_zero,List.set_cons_succ]
 refine wpAnyH_ready (rs:=[2]) (by kernel_rfl) (by simp) (AllReadyH.cons rfl (fun K hK=>?_) AllReadyH.nil)
 clear hHeld
 go_simp
 with_reducible refine(H1.out _ (HE.out.G (HG1.out.trans (G.drew (G.refl _))))).mono ?_
 rintro e' w3 ⟨rfl,hb'⟩
 have HG3:=hide (G.trans (G.drew (G.refl _)) hb')
 clear hb'
 go_wp2_with fail
 refine hK.out _ _ (G.cells HG3.out HCC.out HZ1.out) (fun hHeld=>?_)
 clear hK K
 try simp only[Act.put,List.getElem_toArray,List.getElem_cons_zero,List.getElem_cons_succ,List.setIfInBounds_toArray,List.set_cons_zero,List.set_cons_succ]
 refine wpAnyH_ready (rs:=[5]) (by kernel_rfl) (by simp) (AllReadyH.cons rfl (fun K hK=>?_) AllReadyH.nil)
 clear hHeld
 go_simp
 with_reducible refine(H2.out _).mono ?_
 rintro e' w4 ⟨rfl,hb'⟩
 have HG4:=hide (HG3.out.trans hb')
 clear hb'
 go_wp2_with fail
 refine hK.out _ _ (G.cells HG4.out HCC.out HZ1.out) (fun hHeld=>?_)
 clear hK K
 try simp only[Act.put,List.getElem_toArray,List.getElem_cons_zero,List.getElem_cons_succ,List.setIfInBounds_toArray,List.set_cons_zero,List.set_cons_succ]
 refine wpAnyH_take (i:=6) (v:=?_) rfl (by kernel_rfl) (by kernel_rfl) (by kernel_rfl) (fun _ _ _ h=>h) (Or.inl ⟨by rfl,?_⟩) hHeld ?_
 rotate_left 1
 ·(intro w hSw;(try dsimp only at hSw);go_simp;try with_reducible rfl)
 try simp only[Act.put,List.getElem_toArray,List.getElem_cons_zero,List.getElem_cons_succ,List.setIfInBounds_toArray,List.set_cons_zero,List.set_cons_succ]
 refine wpAnyH_take (i:=7) (v:=?_) rfl (by kernel_rfl) (by kernel_rfl) (by kernel_rfl) (fun _ _ _ h=>h) (Or.inl ⟨by rfl,?_⟩) hHeld ?_
 rotate_left 1
 ·(intro w hSw;(try dsimp only at hSw);go_simp;try with_reducible rfl)
 try simp only[Act.put,List.getElem_toArray,List.getElem_cons_zero,List.getElem_cons_succ,List.setIfInBounds_toArray,List.set_cons_zero,List.set_cons_succ]
 refine wpAnyH_done (by kernel_rfl) ?_ _
 refine NoPanic.normal ?_
 go_wp2
 go_ret
 exact⟨by simp,HG1.out.trans HG4.out⟩
theorem law_scan(op k a b:Int)(s:ByteArray)(k' a' b':Int)(s':ByteArray)(vs:Value)(st tt:ByteArray)(bb:Value)(n x y o1 o2:Int)(hst:st.size≤140737488351232)(w:World)(hE:Env w):Calls prog 21 #[.agg #[I 7,I op,I k,I a,I b,.string s,I k',I a',I b',.string s',vs,.string st,.string tt,bb,I n,I x,I y,I o1,I o2]] w fun r w'=>r=.returned (.bool true)∧G w w':=by
 have H1:=hide (fun w (h:Env w)=>scan_any st (by omega) w h)
 have H2:=hide (fun w=>rscan_all st hst w)
 have HE:=hide hE
 clear hE hst
 go_enter func21,ntmps21
 go_wp2_with fail
 refine(H1.out _ (HE.out.G ((G.refl w).alloc _))).mono ?_
 rintro e w1 ⟨x1,rfl,hu1,hb1⟩
 have hc1:∀o,w1.cell? {block:=w.heap.size,off:=o}=[I 7,I op,I k,I a,I b,.string s,I k',I a',I b',.string s',vs,.string st,.string tt,bb,I n,I x,I y,I o1,I o2][o]?:=G.cells hb1 (by simp) (by simp)
 have hz1:w.heap.size<w1.heap.size:=by have:=hb1.size;simp at this;omega
 have HG1:Hid (G w w1):=G.trans ((G.refl w).alloc _) hb1
 have HU:=hide hu1
 clear hb1 hu1
 obtain⟨k1,a1,b1,s1,c1,rfl⟩:∃k a b s c,x1=.tuple #[V k a b s,.int .i64 c]:=by
  rcases HU.out with ⟨k,a,b,s,_,_,_,_,rfl⟩|⟨_,rfl⟩
  iterate 2
   ·exact⟨_,_,_,_,_,rfl⟩
 go_wp2_with fail
 refine(H2.out _).mono ?_
 rintro e w2 ⟨x2,rfl,hu2,hb2⟩
 obtain rfl:Value.tuple #[V k1 a1 b1 s1,.int .i64 c1]=x2:=sc_one HU.out hu2
 have hc2:∀o,w2.cell? {block:=w1.heap.size,off:=o}=[I k1,I a1,I b1,.string s1][o]?:=G.cells hb2 (by simp) (by simp)
 have hz2:w1.heap.size<w2.heap.size:=by have:=hb2.size;simp at this;omega
 have HG2:Hid (G w w2):=G.trans (G.trans HG1.out ((G.refl w1).alloc _)) hb2
 clear hb2 hu2 HU
 have heq:=eqV
 go_wp2
 go_ret
 exact⟨by simp,by repeat(first|exact HG2.out|refine G.alloc ?_ _|refine G.drew ?_)⟩
theorem plays_t(e:Ent)(kk:e.kind=6∨e.kind=7)(hs:e.s.size≤4611686018427387904)(ha:R64 e.a)(hb:R64 e.b)(hst:e.st.size≤140737488351232)(w:World)(hT:Env w):Calls prog 7 #[e.V] w fun r w'=>r=.returned (.bool true)∧G w w':=by
 obtain⟨kind,op,k,a,b,s,k',a',b',s',vs,st,tt,bb,n,x,y,o1,o2⟩:=e
 simp only at kk hs ha hb hst
 rcases kk with rfl|rfl
 ·have HF:Hid (∀w,Env w→Calls prog 21 #[.agg #[I 6,I op,I k,I a,I b,.string s,I k',I a',I b',.string s',vs,.string st,.string tt,bb,I n,I x,I y,I o1,I o2]] w fun r w'=>r=.returned (.bool true)∧G w w'):=fun w h=>law_print op k a b s k' a' b' s' vs st tt bb n x y o1 o2 hs ha hb w h
  clear hs ha hb hst
  have hr:(w.alloc (.cells #[I 6,I op,I k,I a,I b,.string s,I k',I a',I b',.string s',vs,.string st,.string tt,bb,I n,I x,I y,I o1,I o2] 35)).rangeAt w.heap.size 0 [I 6,I op,I k,I a,I b,.string s,I k',I a',I b',.string s',vs,.string st,.string tt,bb,I n,I x,I y,I o1,I o2]:=fun j v hv=>by rw[Nat.zero_add];simpa using hv
  go_enter func7,ntmps7
  go_wp2_with (first|(refine wpList_load_mid rfl 35 _ rfl w.heap.size 0 rfl [I 6,I op,I k,I a,I b,.string s,I k',I a',I b',.string s',vs,.string st,.string tt,bb,I n,I x,I y,I o1,I o2] _ hr underlying35 rfl (by kernel_rfl) ?_)|(go_at_call 21;refine(HF.out _ (hT.G ((G.refl w).alloc _))).mono ?_;rintro e w1 ⟨rfl,hb1⟩))
  go_wp2
  go_ret
  exact⟨rfl,((G.refl w).alloc _).trans hb1⟩
 ·have HF:Hid (∀w,Env w→Calls prog 21 #[.agg #[I 7,I op,I k,I a,I b,.string s,I k',I a',I b',.string s',vs,.string st,.string tt,bb,I n,I x,I y,I o1,I o2]] w fun r w'=>r=.returned (.bool true)∧G w w'):=fun w h=>law_scan op k a b s k' a' b' s' vs st tt bb n x y o1 o2 hst w h
  clear hs ha hb hst
  have hr:(w.alloc (.cells #[I 7,I op,I k,I a,I b,.string s,I k',I a',I b',.string s',vs,.string st,.string tt,bb,I n,I x,I y,I o1,I o2] 35)).rangeAt w.heap.size 0 [I 7,I op,I k,I a,I b,.string s,I k',I a',I b',.string s',vs,.string st,.string tt,bb,I n,I x,I y,I o1,I o2]:=fun j v hv=>by rw[Nat.zero_add];simpa using hv
  go_enter func7,ntmps7
  go_wp2_with (first|(refine wpList_load_mid rfl 35 _ rfl w.heap.size 0 rfl [I 7,I op,I k,I a,I b,.string s,I k',I a',I b',.string s',vs,.string st,.string tt,bb,I n,I x,I y,I o1,I o2] _ hr underlying35 rfl (by kernel_rfl) ?_)|(go_at_call 21;refine(HF.out _ (hT.G ((G.refl w).alloc _))).mono ?_;rintro e w1 ⟨rfl,hb1⟩))
  go_wp2
  go_ret
  exact⟨rfl,((G.refl w).alloc _).trans hb1⟩
theorem texts_plays(W:World)(hT:Env W)(e:Ent)(h:EntOk W e)(h1:6≤e.kind)(h2:e.kind≤7)(w':World)(g:G W w'):Calls prog 7 #[e.V] w' fun r w''=>r=.returned (.bool true)∧G w' w'':=
 plays_t e (by omega) (by have:=h.s;unfold reachBytes at this;omega) h.a h.b (by have:=h.st;unfold reachBytes at this;omega) w' (hT.G g)
end
section
abbrev bv(n:Nat):Value:=.int .u8 (n:Int)
def digs(m:Nat):List Nat:=if h:m=0 then [] else(m%256)::digs (m/256)
termination_by m
decreasing_by omega
def lows:Nat→Nat→List Nat
 | 0,_=>[]
 | k+1,x=>(x%256)::lows k (x/256)
theorem lows_length(k x:Nat):(lows k x).length=k:=by
 induction k generalizing x with
 | zero=>rfl
 | succ k ih=>simp[lows,ih]
theorem digs_zero:digs 0=[]:=by unfold digs;simp
theorem digs_pos{m:Nat}(h:m≠0):digs m=(m%256)::digs (m/256):=by
 conv=>lhs;unfold digs
 simp[h]
theorem lows_digs(m:Nat):lows (digs m).length m=digs m:=by
 induction m using Nat.strongRecOn with
 | _ m ih=>
  by_cases h:m=0
  ·subst h;rw[digs_zero];rfl
  ·rw[digs_pos h]
   show(m%256)::lows (digs (m/256)).length (m/256)=_
   rw[ih (m/256) (by omega)]
theorem lows_at(k x j:Nat)(h:j<k):(lows k x)[j]?=some (x/256^j%256):=by
 induction k generalizing x j with
 | zero=>omega
 | succ k ih=>
  cases j with
  | zero=>simp[lows]
  | succ j=>
   show(lows k (x/256))[j]?=_
   rw[ih (x/256) j (by omega),Nat.div_div_eq_div_mul]
   congr 3
   rw[Nat.pow_succ,Nat.mul_comm]
theorem lows_flip(k x y:Nat)(h:x+y+1=256^k):∀j,j≤k→lows j y=(lows j x).map (255 - ·):=by
 induction k generalizing x y with
 | zero=>
  intro j hj
  have:j=0:=by omega
  subst this;rfl
 | succ k ih=>
  intro j hj
  cases j with
  | zero=>rfl
  | succ j=>
   rw[Nat.pow_succ] at h
   have e:=ih (x/256) (y/256) (by omega) j (by omega)
   simp only[lows,List.map_cons,e]
   congr 1
   omega
theorem digs_lt(m:Nat):∀d∈digs m,d<256:=by
 induction m using Nat.strongRecOn with
 | _ m ih=>
  by_cases h:m=0
  ·subst h;rw[digs_zero];simp
  ·rw[digs_pos h]
   intro d hd
   rcases List.mem_cons.1 hd with rfl|hd
   ·exact Nat.mod_lt _ (by decide)
   ·exact ih (m/256) (by omega) d hd
theorem digs_len_le(k m:Nat)(h:m<256^k):(digs m).length≤k:=by
 induction k generalizing m with
 | zero=>
  have:m=0:=by simpa using h
  subst this;rw[digs_zero];simp
 | succ k ih=>
  by_cases h0:m=0
  ·subst h0;rw[digs_zero];simp
  ·rw[digs_pos h0]
   have:=ih (m/256) (by rw[Nat.pow_succ] at h;omega)
   simp;omega
def lowB(n:Int):List Nat:=(digs n.natAbs).map fun x=>if n<0 then 255-x else x
def encW(n:Int):List Nat:=(if n<0 then 64-(lowB n).length else 64+(lowB n).length)::(lowB n).reverse
def encS(l:List Nat):List Nat:=l.flatMap fun c=>if c=0 then [0,255] else [c]
end
section
open Go.RowKit
structure PutR(w:World)(g off len k x:Nat)(W:World):Prop where
 keep:∀w0,G w0 w→w0.heap.size≤g→G w0 W
 new:∀j,len-k≤j→j<len→W.cell? ⟨g,off+j,none⟩=some (bv (x/256^(len-1-j)%256))
 old:∀o,¬(off+(len-k)≤o∧o<off+len)→W.cell? ⟨g,o,none⟩=w.cell? ⟨g,o,none⟩
 size:W.heap.size=w.heap.size
 other:∀b o,b≠g→W.cell? ⟨b,o,none⟩=w.cell? ⟨b,o,none⟩
 frozen:∀b o,W.frozen? ⟨b,o,none⟩=w.frozen? ⟨b,o,none⟩
theorem PutR.start(w:World)(g off len x:Nat):PutR w g off len 0 x w:=
 ⟨fun _ h _=>h,fun j h1 h2=>by omega,fun _ _=>rfl,rfl,fun _ _ _=>rfl,fun _ _=>rfl⟩
theorem frozen_setCell(W:World)(p:Addr)(u:Value)(a:Addr):(W.setCell p u).frozen? a=W.frozen? a:=by simp
theorem PutR.step{w W:World}{g off len k x:Nat}(h:PutR w g off len k x W)(hk:k<len)(hc:∃u,W.cell? ⟨g,off+(len-1-k),none⟩=some u) :
  PutR w g off len (k+1) x (W.setCell ⟨g,off+(len-1-k),none⟩ (bv (x/256^k%256))):=by
 obtain⟨u,hu⟩:=hc
 refine⟨fun w0 h0 hg=>(h.keep w0 h0 hg).setCell hg _,fun j h1 h2=>?_,fun o ho=>?_,?_,fun b o hb=>?_,fun b o=>?_⟩
 ·by_cases e:j=len-1-k
  ·subst e
   rw[World.cell?_setCell_same _ _ _ hu]
   have:len-1-(len-1-k)=k:=by omega
   rw[this]
  ·rw[World.cell?_setCell_other _ _ _ _ (by intro he;have:=congrArg Addr.off he;simp at this;omega)]
   exact h.new j (by omega) h2
 ·rw[World.cell?_setCell_other _ _ _ _ (by intro he;have:=congrArg Addr.off he;simp at this;omega)]
  exact h.old o (by omega)
 ·rw[←h.size];simp
 ·rw[World.cell?_setCell_other _ _ _ _ (by intro he;cases he;exact hb rfl)]
  exact h.other b o hb
 ·rw[frozen_setCell];exact h.frozen b o
theorem put_any(g off len cap x:Nat)(hl:len≤1073741824)(hcap:len≤cap)(w:World)(hc:∀j,j<len→∃u,w.cell? ⟨g,off+j,none⟩=some u)(hf:∀j,j<len→w.frozen? ⟨g,off+j,none⟩=false) :
  Calls prog 110 #[.slice (some ⟨g,off,none⟩) len cap,.int .u64 x] w fun e w'=>e=.returned (.tuple #[])∧PutR w g off len len x w':=by
 have HC:Hid _:=hc
 have HF:Hid _:=hf
 clear hc hf
 go_enter func110,ntmps110
 go_wp2
 go_loopw [1,4] (fun n i W=>∃k:Nat,k≤len∧i=.int .i64 ((len:Int)-1-k)∧n=.int .u64 ((x/256^k:Nat):Int)∧PutR w g off len k x W) (fun _ i _=>(RowKit.intOf i+1).toNat)
 case atStart=>exact⟨0,by omega,by simp,by simp,PutR.start _ _ _ _ _⟩
 case round=>
  obtain⟨k,hk,rfl,rfl,hR⟩:=hrel
  by_cases hlt:k<len
  ·obtain⟨j,hj⟩:∃j:Nat,(len:Int)-1-k=j:=⟨len-1-k,by omega⟩
   have hjj:j=len-1-k:=by omega
   have hcell:∃u,wr.cell? ⟨g,off+j,none⟩=some u:=by
    obtain⟨u,hu⟩:=HC.out j (by omega)
    exact⟨u,by rw[hR.old _ (by omega)];exact hu⟩
   have hfz:wr.frozen? ⟨g,off+j,none⟩=false:=by rw[hR.frozen];exact HF.out j (by omega)
   obtain⟨u,hu⟩:=hcell
   have HR:Hid (PutR w g off len (k+1) x (wr.setCell ⟨g,off+j,none⟩ (.int .u8 ((x:Int)/256^k%256)))):=by
    have e:(x:Int)/256^k%256=((x/256^k%256:Nat):Int):=by simp
    rw[e];subst hjj;exact hR.step hlt ⟨u,hu⟩
   have HJ:Hid _:=hjj
   clear hR hjj
   rw[hj]
   go_wp2
   go_roundw
   case rel=>exact⟨k+1,by omega,by congr 1;omega,by congr 1;rw[Nat.pow_succ,←Nat.div_div_eq_div_mul];simp,HR.out⟩
   case measure=>simp[RowKit.intOf]
  ·have e:k=len:=by omega
   subst e
   have HR:Hid _:=hR
   clear hR
   have e1:(k:Int)-1-k = -1:=by omega
   rw[e1]
   go_wp2
   go_end0
   exact⟨rfl,HR.out⟩
end
section
open Go.RowKit
theorem bits_spec(f x:Nat)(h:x<2^f):x<2^Lib.bitLenAux f x∧(x≠0→2^Lib.bitLenAux f x≤2*x):=by
 induction f generalizing x with
 | zero=>
  have:x=0:=by simpa using h
  subst this;simp[Lib.bitLenAux]
 | succ f ih=>
  by_cases h0:x=0
  ·subst h0;simp[Lib.bitLenAux]
  ·have:=ih (x/2) (by rw[Nat.pow_succ] at h;omega)
   simp only[Lib.bitLenAux,h0,if_false]
   rw[Nat.add_comm 1,Nat.pow_succ]
   refine⟨by omega,fun _=>?_⟩
   by_cases h1:x/2=0
   ·rw[h1]
    have:Lib.bitLenAux f 0=0:=by cases f<;>simp[Lib.bitLenAux]
    rw[this];omega
   ·have:=this.2 h1;omega
theorem digs_spec(m:Nat):m<256^(digs m).length∧(m≠0→256^(digs m).length≤256*m):=by
 induction m using Nat.strongRecOn with
 | _ m ih=>
  by_cases h:m=0
  ·subst h;rw[digs_zero];simp
  ·have:=ih (m/256) (by omega)
   rw[digs_pos h,List.length_cons,Nat.pow_succ]
   refine⟨by omega,fun _=>?_⟩
   by_cases h1:m/256=0
   ·rw[h1,digs_zero];simp;omega
   ·have:=this.2 h1;omega
theorem digs_bits(m:Nat)(h:m<2^64):(digs m).length=(Lib.bitLen m+7)/8:=by
 obtain⟨a1,a2⟩:=bits_spec 64 m h
 obtain⟨b1,b2⟩:=digs_spec m
 unfold Lib.bitLen
 by_cases h0:m=0
 ·subst h0;rw[digs_zero];simp[Lib.bitLenAux]
 ·have a2:=a2 h0;have b2:=b2 h0
  generalize Lib.bitLenAux 64 m=b at a1 a2
  generalize (digs m).length=L at b1 b2
  have e:(256:Nat)^L=2^(8*L):=by rw[Nat.pow_mul]
  rw[e] at b1 b2
  have c1:b<8*L+1:=(Nat.pow_lt_pow_iff_right (a:=2) (by decide)).1 (by rw[Nat.pow_succ];omega)
  have c2:8*L<b+8:=(Nat.pow_lt_pow_iff_right (a:=2) (by decide)).1 (by rw[Nat.pow_add];omega)
  omega
structure Bw(w0 W:World)(x:Value)(xs:List Nat):Prop where
 g:G w0 W
 own:W.ownsRow w0.heap.size 5 1 x xs.length (xs.map bv)
theorem G.grownE{w w':World}(g:G w w'):w.grownBy w' none:=⟨g.os,g.tape,g.output,g.size,fun k hk _=>g.block k hk⟩
theorem own_GE{w w':World}{base:Nat}{e:TypeId}{size:Nat}{v:Value}{n:Nat}{xs:List Value}(h:w.ownsRow base e size v n xs)(g:G w w'):w'.ownsRow base e size v n xs:=
 h.kept g.grownE (by cases h2:v.ownBlock<;>simp)
theorem Bw.keep{w0 W W':World}{x:Value}{xs:List Nat}(h:Bw w0 W x xs)(g:G W W'):Bw w0 W' x xs:=⟨h.g.trans g,own_GE h.own g⟩
theorem Bw.down{w0 w1 W:World}{x:Value}{xs:List Nat}(h:Bw w1 W x xs)(g:G w0 w1):Bw w0 W x xs:=by
 refine⟨g.trans h.g,h.own.1,?_⟩
 rcases h.own.2 with h2|⟨k,cap,cur,e,hk,r⟩
 ·exact .inl h2
 ·exact .inr ⟨k,cap,cur,e,Nat.le_trans g.size hk,r⟩
theorem Bw.nil(w0 W:World)(g:G w0 W):Bw w0 W (.slice none 0 0) []:=⟨g,World.ownsRow_nil _ _ _ _⟩
theorem Bw.app{w0 W:World}{x:Value}{xs:List Nat}(h:Bw w0 W x xs){v':Value}{w':World}(news:List Nat)(m:Nat)(hm:m=news.length)
  (h1:w'.ownsRow w0.heap.size 5 1 v' (xs.length+m) (xs.map bv++news.map bv)) (h2:W.grownBy w' x.ownBlock):Bw w0 w' v' (xs++news):=by
 refine⟨Below.grown h.g h2 h.g.size (fun g hg=>(World.ownsRow.lt h.own g hg).1),?_⟩
 rw[List.length_append,List.map_append,←hm]
 exact h1
theorem Bw.fresh{w0 W:World}(g:G w0 W)(xs:List Nat)(cur:Array Value)(hcur:cur.toList=xs.map bv)(hne:xs.length≤maxLen):Bw w0 (W.alloc (.cells cur 5)) (.slice (some ⟨W.heap.size,0,none⟩) xs.length xs.length) xs:=by
 refine⟨g.alloc _,by simp,.inr ⟨W.heap.size,xs.length,cur,rfl,g.size,Array.getElem?_push_size,Nat.le_refl _,hne,?_,?_⟩⟩
 ·have:=congrArg List.length hcur
  simpa using this
 ·rw[hcur,Nat.mul_one];exact List.take_of_length_le (by simp)
theorem Bw.at{w0 W:World}{x:Value}{xs:List Nat}(h:Bw w0 W x xs):(x=.slice none 0 0∧xs=[])∨∃g cap,x=.slice (some ⟨g,0,none⟩) xs.length cap∧w0.heap.size≤g∧g<W.heap.size∧xs.length≤cap∧∀i d,xs[i]?=some d→W.cell? ⟨g,i,none⟩=some (bv d):=by
 rcases h.own.2 with ⟨rfl,hn⟩|⟨g,cap,cur,rfl,hg,hh,hc,_,hs,ht⟩
 ·exact .inl ⟨rfl,List.eq_nil_of_length_eq_zero hn⟩
 ·refine .inr ⟨g,cap,rfl,hg,(World.ownsRow.lt h.own g rfl).2,hc,fun i d hi=>?_⟩
  have:=h.own.cells (g:=g) rfl i (bv d) (by rw[List.getElem?_map,hi];rfl)
  have e:(⟨g,0,none⟩:Addr).add i=⟨g,i,none⟩:=by
   by_cases c:i=0
   ·subst c;rfl
   ·simp[Addr.add,c]
  rw[e] at this
  exact this
theorem info_u8:(prog.info? 5).map (fun i=>(i.zero,i.size,i.bytes))=some (some (.int .u8 0),1,1):=by kernel_rfl
end
end Go.Proofs.YthmdjhfbhbheeaaGreatDoor
namespace Go.Proofs
open Go.Shelf
def Tryz.laysLen64_ren:Go.Shelf.Ren:=⟨fun|129=>209|n=>n,fun|53=>134|3=>3|4=>4|46=>168|5=>5|9=>9|n=>n,fun|n=>n⟩
theorem Tryz.laysLen64:Go.Proofs.Lays.n129 Tryz.prog Tryz.laysLen64_ren:={
 mixed:=by kernel_rfl
 f129:=Tryz.func209.trans (congrArg some (by kernel_rfl))
 t3:=Tryz.underlying3
 a3:=Tryz.isAgg3
 z3:=Tryz.sizeOf3
 v3:=Tryz.zeroValue3
 t4:=Tryz.underlying4
 a4:=Tryz.isAgg4
 z4:=Tryz.sizeOf4
 v4:=Tryz.zeroValue4
 t5:=Tryz.underlying5
 a5:=Tryz.isAgg5
 z5:=Tryz.sizeOf5
 v5:=Tryz.zeroValue5
 t9:=Tryz.underlying9
 a9:=Tryz.isAgg9
 z9:=Tryz.sizeOf9
 v9:=Tryz.zeroValue9
 t46:=Tryz.underlying168
 a46:=Tryz.isAgg168
 z46:=Tryz.sizeOf168
 v46:=Tryz.zeroValue168
 t53:=Tryz.underlying134
 a53:=Tryz.isAgg134
 z53:=Tryz.sizeOf134
 v53:=Tryz.zeroValue134}
end Go.Proofs
namespace Go.Proofs.YthmdjhfbhbheeaaGreatDoor
open Go.Proofs.Tryz
set_option maxHeartbeats 4000000
set_option maxRecDepth 100000
section
open Go.RowKit Go.Shelf
theorem len64(m:Nat)(h:m<2^64)(w:World):Calls prog 209 #[.int .u64 (m:Int)] w fun e w'=>e=.returned (.int .i64 (Lib.bitLen m))∧w'=w:=by
 have:=Any.bits_Len64 Tryz.laysLen64 (m:Int) w (by omega) (by omega)
 rw[Int.toNat_natCast] at this
 exact this
theorem mk_u8(L:Nat)(h:L≤1073741824)(w:World):(Instr.makeSlice 33 (.int .i64 (L:Int)) (.int .i64 (L:Int))).run prog w=.ok (.slice (some ⟨w.heap.size,0,none⟩) L L) (w.alloc (.cells (Array.replicate L (.int .u8 0)) 5)):=by
 obtain⟨i0,hi,hz0,hz1,hz2⟩:=info_parts info_u8
 rw[run_make (P:=prog) w 33 5 i0 (.int .u8 0) underlying33 hi hz0 .i64 .i64 L L (by omega) (by omega) (by rw[hz2];omega) (by omega),hz1]
 have e:madeCells (Value.int .u8 0).cells ((L:Int).toNat*1)=Array.replicate L (.int .u8 0):=by
  rw[Int.toNat_natCast,Nat.mul_one]
  apply Array.ext
  ·simp[madeCells]
  ·intro i h1 h2
   have hc:(Value.int .u8 0).cells=#[.int .u8 0]:=rfl
   simp[madeCells,hc,Nat.mod_one]
 rw[e,Int.toNat_natCast]
theorem made_cell(w:World)(L j:Nat)(h:j<L):(w.alloc (.cells (Array.replicate L (.int .u8 0)) 5)).cell? ⟨w.heap.size,j,none⟩=some (.int .u8 0):=by
 simp[h]
theorem made_frozen(w:World)(L j:Nat):(w.alloc (.cells (Array.replicate L (.int .u8 0)) 5)).frozen? ⟨w.heap.size,j,none⟩=false:=by
 simp
theorem xor_u64(m y:Nat)(h:m<2^64)(hy:y=18446744073709551615-m):Op.unary .xor (.int .u64 (m:Int))=pure (.int .u64 (y:Int)):=by
 have e:∀v:BitVec 64,(BitVec.ofInt 64 18446744073709551615 ^^^ v).toNat=18446744073709551615-v.toNat:=by
  intro v
  have:BitVec.ofInt 64 18446744073709551615=BitVec.allOnes 64:=by decide
  rw[this,BitVec.allOnes_xor,BitVec.toNat_not]
 have hv:(BitVec.ofInt 64 (m:Int)).toNat=m:=by
  rw[BitVec.toNat_ofInt];omega
 show(pure (.int .u64 (IntKind.u64.wrap ((BitVec.ofInt 64 18446744073709551615 ^^^ BitVec.ofInt 64 (m:Int)).toNat:Int))):Sem Value)=_
 rw[e,hv,←hy,IntKind.wrap_u64]
 congr 2
 omega
theorem addr_add(g j:Nat):(⟨g,0,none⟩:Addr).add j=⟨g,j,none⟩:=by
 by_cases c:j=0
 ·subst c;rfl
 ·simp[Addr.add,c]
theorem put_row{w W:World}{g L x:Nat}(h:PutR w g 0 L L x W)(j d:Nat)(hj:(lows L x).reverse[j]?=some d):W.cell? ⟨g,j,none⟩=some (bv d):=by
 have hlt:j<L:=by
  have:=(List.getElem?_eq_some_iff.1 hj).1
  simpa [lows_length] using this
 have:=h.new j (by omega) hlt
 rw[Nat.zero_add] at this
 rw[this]
 rw[List.getElem?_reverse (by rw[lows_length];exact hlt),lows_length,lows_at L x (L-1-j) (by omega)] at hj
 cases hj;rfl
theorem aw_pos(m:Nat)(hm:m<9223372036854775808)(w0 w:World)(x:Value)(xs:List Nat)(hB:Bw w0 w x xs)(hl:xs.length≤1000) :
  Calls prog 248 #[x,.int .i64 ((m:Int))] w fun e w'=>∃x',e=.returned x'∧Bw w0 w' x' (xs++encW ((m:Int))):=by
 obtain⟨i0,hi,hz0,hz1,hz2⟩:=info_parts info_u8
 have hw:(m:Int)%18446744073709551616=m:=by omega
 have HB:Hid _:=hB
 clear hB
 obtain⟨b,hb⟩:∃b,b=Lib.bitLen m:=⟨_,rfl⟩
 obtain⟨L,hDL⟩:∃L,(digs m).length=L:=⟨_,rfl⟩
 have hL:=digs_bits m (by omega)
 rw[←hb,hDL] at hL
 have hL8:L≤8:=hDL▸digs_len_le 8 m (by omega)
 have hE:encW ((m:Int))=(64+L)::(lows L m).reverse:=by
  unfold encW lowB
  have e1:((m:Int)).natAbs=m:=by omega
  have e2:((m:Int)<0)=False:=by simp
  rw[e1]
  simp only[e2,if_false,List.map_id',hDL]
  rw[←hDL,lows_digs]
 have H1:Hid (∀w,Calls prog 209 #[.int .u64 (m:Int)] w fun e w'=>e=.returned (.int .i64 (b:Int))∧w'=w):=fun w=>by rw[hb];exact len64 m (by omega) w
 have hb8:b≤64:=by omega
 have hLi:((b:Int)+7)/8=(L:Int):=by omega
 have hmk:=mk_u8 L (by omega)
 rw[hE]
 clear hb hDL hE hL
 go_enter func248,ntmps248
 go_wp2_with fail
 refine(H1.out _).mono ?_
 rintro e w1 ⟨rfl,rfl⟩
 go_wp2_with fail
 refine(put_any _ 0 L L m (by omega) (Nat.le_refl _) _ (fun j hj=>⟨_,by rw[Nat.zero_add];exact made_cell w1 L j hj⟩) (fun j _=>by rw[Nat.zero_add];exact made_frozen w1 L j)).mono ?_
 rintro e w2 ⟨rfl,hP⟩
 have g2:G w1 w2:=hP.keep w1 ((G.refl w1).alloc _) (Nat.le_refl _)
 have HB2:Hid (Bw w0 w2 x xs):=HB.out.keep g2
 have HP:Hid _:=fun j d=>put_row hP j d
 have hs2:w1.heap.size<w2.heap.size:=by have:=hP.size;simp at this;omega
 have hne:x.ownBlock≠some w1.heap.size:=by
  intro he
  have:=(World.ownsRow.lt HB.out.own _ he).2
  omega
 have HNE:Hid _:=hne
 have hs0:w0.heap.size≤w2.heap.size:=HB2.out.g.size
 clear hP HB g2 H1 hne
 go_wp2_with (at_builtin;refine wpList_append_own _ rfl _ _ 33 rfl w0.heap.size 5 i0 (.int .u8 0) 1 1 underlying33 hi hz0 hz1 hz2 rfl (by decide) _ _ _ rfl (World.ownsRow.alloc HB2.out.own _) ⟨w2.heap.size,0,none⟩ 1 1 [.int .u8 (64+(L:Int))] rfl ?c0 ?c1 ?c2 ?c3 ?c4 ?c5 ?_)
 case c0=>rfl
 case c1=>
  intro j u hj
  match j,hj with
  | 0,hj=>simp at hj;subst hj;simp[Addr.add]
 case c2=>first|rfl|(intro u hu;simp at hu;subst hu;rfl)
 case c3=>unfold maxLen;omega
 case c4=>omega
 case c5=>simp;omega
 intro x1 w3 hown3 hgrow _
 have eb:(Value.int .u8 (64+(L:Int)))=bv (64+L):=by show Value.int .u8 _=Value.int .u8 _;congr 1
 have HB3:Hid (Bw w0 w3 x1 (xs++[64+L])):=(HB2.out.keep ((G.refl _).alloc _)).app [64+L] 1 rfl (by rw[eb] at hown3;exact hown3) hgrow
 have HP3:Hid (∀j d,(lows L m).reverse[j]?=some d→w3.cell? ⟨w1.heap.size,j,none⟩=some (bv d)):=fun j d hj=>
  (World.cell?_of_block (hgrow.block w1.heap.size (by simp;omega) (fun e=>HNE.out e.symm))).trans ((((G.refl w2).alloc _).cell hs2).trans (HP.out j d hj))
 have hs3:w0.heap.size≤w3.heap.size:=HB3.out.g.size
 clear hown3 hgrow HB2 HP HNE
 go_wp2_with (at_builtin;refine wpList_append_own _ rfl _ _ 33 rfl w0.heap.size 5 i0 (.int .u8 0) 1 1 underlying33 hi hz0 hz1 hz2 rfl (by decide) _ _ _ rfl HB3.out.own ⟨w1.heap.size,0,none⟩ L L ((lows L m).reverse.map bv) rfl ?d0 ?d1 ?d2 ?d3 ?d4 ?d5 ?_)
 case d0=>simp[lows_length]
 case d1=>
  intro j u hj
  rw[List.getElem?_map] at hj
  obtain⟨d,hd,rfl⟩:=Option.map_eq_some_iff.1 hj
  rw[addr_add]
  exact HP3.out j d hd
 case d2=>intro u hu;obtain⟨d,_,rfl⟩:=List.mem_map.1 hu;rfl
 case d3=>unfold maxLen;simp;omega
 case d4=>simp;omega
 case d5=>exact hs3
 intro x2 w4 hown4 hgrow4 _
 have HB4:Hid (Bw w0 w4 x2 ((xs++[64+L])++(lows L m).reverse)):=HB3.out.app _ L (by simp[lows_length]) (by simpa using hown4) hgrow4
 clear hown4 hgrow4 HB3 HP3
 go_wp2
 go_ret
 exact⟨_,rfl,by have:=HB4.out;rwa [List.append_assoc,List.singleton_append] at this⟩
theorem aw_neg(m:Nat)(n:Int)(hn:n = -(m:Int))(h0:0<m)(hm:m≤9223372036854775808)(w0 w:World)(x:Value)(xs:List Nat)(hB:Bw w0 w x xs)(hl:xs.length≤1000) :
  Calls prog 248 #[x,.int .i64 (n)] w fun e w'=>∃x',e=.returned x'∧Bw w0 w' x' (xs++encW (n)):=by
 obtain⟨i0,hi,hz0,hz1,hz2⟩:=info_parts info_u8
 obtain⟨u,hu⟩:∃u:Int,u=18446744073709551616-m:=⟨_,rfl⟩
 obtain⟨y,hy⟩:∃y:Nat,y=18446744073709551615-m:=⟨_,rfl⟩
 have hw:IntKind.u64.wrap n=u:=by rw[IntKind.wrap_u64];omega
 have hw2:IntKind.u64.wrap (-u)=m:=by rw[IntKind.wrap_u64];omega
 have hxr:=xor_u64 m y (by omega) hy
 have hy64:y<2^64:=by omega
 have hlt:decide (n<0)=true:=by simp;omega
 have HB:Hid _:=hB
 clear hB
 obtain⟨b,hb⟩:∃b,b=Lib.bitLen m:=⟨_,rfl⟩
 obtain⟨L,hDL⟩:∃L,(digs m).length=L:=⟨_,rfl⟩
 have hL:=digs_bits m (by omega)
 rw[←hb,hDL] at hL
 have hL8:L≤8:=hDL▸digs_len_le 8 m (by omega)
 have hE:encW (n)=(64-L)::(lows L y).reverse:=by
  unfold encW lowB
  have e1:(n).natAbs=m:=by omega
  have e2:(n<0)=True:=by simp;omega
  rw[e1]
  simp only[e2,if_true,List.length_map,hDL]
  rw[lows_flip 8 m y (by omega) L hL8]
  rw[←hDL,lows_digs]
 have H1:Hid (∀w,Calls prog 209 #[.int .u64 (m:Int)] w fun e w'=>e=.returned (.int .i64 (b:Int))∧w'=w):=fun w=>by rw[hb];exact len64 m (by omega) w
 have hb8:b≤64:=by omega
 have hLi:((b:Int)+7)/8=(L:Int):=by omega
 have hmk:=mk_u8 L (by omega)
 rw[hE]
 clear hb hDL hE hL hn hu hy
 go_enter func248,ntmps248
 go_wp2_with fail
 refine(H1.out _).mono ?_
 rintro e w1 ⟨rfl,rfl⟩
 go_wp2_with fail
 refine(put_any _ 0 L L y (by omega) (Nat.le_refl _) _ (fun j hj=>⟨_,by rw[Nat.zero_add];exact made_cell w1 L j hj⟩) (fun j _=>by rw[Nat.zero_add];exact made_frozen w1 L j)).mono ?_
 rintro e w2 ⟨rfl,hP⟩
 have g2:G w1 w2:=hP.keep w1 ((G.refl w1).alloc _) (Nat.le_refl _)
 have HB2:Hid (Bw w0 w2 x xs):=HB.out.keep g2
 have HP:Hid _:=fun j d=>put_row hP j d
 have hs2:w1.heap.size<w2.heap.size:=by have:=hP.size;simp at this;omega
 have hne:x.ownBlock≠some w1.heap.size:=by
  intro he
  have:=(World.ownsRow.lt HB.out.own _ he).2
  omega
 have HNE:Hid _:=hne
 have hs0:w0.heap.size≤w2.heap.size:=HB2.out.g.size
 clear hP HB g2 H1 hne
 go_wp2_with (at_builtin;refine wpList_append_own _ rfl _ _ 33 rfl w0.heap.size 5 i0 (.int .u8 0) 1 1 underlying33 hi hz0 hz1 hz2 rfl (by decide) _ _ _ rfl (World.ownsRow.alloc HB2.out.own _) ⟨w2.heap.size,0,none⟩ 1 1 [.int .u8 (64-(L:Int))] rfl ?c0 ?c1 ?c2 ?c3 ?c4 ?c5 ?_)
 case c0=>rfl
 case c1=>
  intro j u hj
  match j,hj with
  | 0,hj=>simp at hj;subst hj;simp[Addr.add]
 case c2=>first|rfl|(intro u hu;simp at hu;subst hu;rfl)
 case c3=>unfold maxLen;omega
 case c4=>omega
 case c5=>simp;omega
 intro x1 w3 hown3 hgrow _
 have eb:(Value.int .u8 (64-(L:Int)))=bv (64-L):=by show Value.int .u8 _=Value.int .u8 _;congr 1;omega
 have HB3:Hid (Bw w0 w3 x1 (xs++[64-L])):=(HB2.out.keep ((G.refl _).alloc _)).app [64-L] 1 rfl (by rw[eb] at hown3;exact hown3) hgrow
 have HP3:Hid (∀j d,(lows L y).reverse[j]?=some d→w3.cell? ⟨w1.heap.size,j,none⟩=some (bv d)):=fun j d hj=>
  (World.cell?_of_block (hgrow.block w1.heap.size (by simp;omega) (fun e=>HNE.out e.symm))).trans ((((G.refl w2).alloc _).cell hs2).trans (HP.out j d hj))
 have hs3:w0.heap.size≤w3.heap.size:=HB3.out.g.size
 clear hown3 hgrow HB2 HP HNE
 go_wp2_with (at_builtin;refine wpList_append_own _ rfl _ _ 33 rfl w0.heap.size 5 i0 (.int .u8 0) 1 1 underlying33 hi hz0 hz1 hz2 rfl (by decide) _ _ _ rfl HB3.out.own ⟨w1.heap.size,0,none⟩ L L ((lows L y).reverse.map bv) rfl ?d0 ?d1 ?d2 ?d3 ?d4 ?d5 ?_)
 case d0=>simp[lows_length]
 case d1=>
  intro j u hj
  rw[List.getElem?_map] at hj
  obtain⟨d,hd,rfl⟩:=Option.map_eq_some_iff.1 hj
  rw[addr_add]
  exact HP3.out j d hd
 case d2=>intro u hu;obtain⟨d,_,rfl⟩:=List.mem_map.1 hu;rfl
 case d3=>unfold maxLen;simp;omega
 case d4=>simp;omega
 case d5=>exact hs3
 intro x2 w4 hown4 hgrow4 _
 have HB4:Hid (Bw w0 w4 x2 ((xs++[64-L])++(lows L y).reverse)):=HB3.out.app _ L (by simp[lows_length]) (by simpa using hown4) hgrow4
 clear hown4 hgrow4 HB3 HP3
 go_wp2
 go_ret
 exact⟨_,rfl,by have:=HB4.out;rwa [List.append_assoc,List.singleton_append] at this⟩
theorem aw_any(n:Int)(h1:-9223372036854775808≤n)(h2:n≤9223372036854775807)(w0 w:World)(x:Value)(xs:List Nat)(hB:Bw w0 w x xs)(hl:xs.length≤1000) :
  Calls prog 248 #[x,.int .i64 n] w fun e w'=>∃x',e=.returned x'∧Bw w0 w' x' (xs++encW n):=by
 by_cases h:n<0
 ·exact aw_neg n.natAbs n (by omega) (by omega) (by omega) w0 w x xs hB hl
 ·have e:n=((n.toNat:Nat):Int):=by omega
  rw[e]
  exact aw_pos n.toNat (by omega) w0 w x xs hB hl
end
end Go.Proofs.YthmdjhfbhbheeaaGreatDoor
