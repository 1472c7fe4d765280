import Derived.Test.YthmdjhfbhbheeaaGreatDoorFold3
namespace Go.Proofs.YthmdjhfbhbheeaaGreatDoor
open Go.Proofs.Tryz
set_option maxHeartbeats 2000000
set_option maxRecDepth 100000
section
open Go.RowKit Go.Lib Go.Shelf
theorem zOC(w:World):CG 97 #[.slice none 0 0] w (.tuple #[V 2 0 0 E0,.int .i64 0]):=by
 go_enter func97,ntmps97
 go_wp2
 go_loopw [4] (fun i W=>i=.int .i64 0∧W=w.alloc (.cells #[I 0,I 0,I 0,.string E0] 31)) (fun _ _=>0)
 case atStart=>exact⟨rfl,rfl⟩
 case round=>
  obtain⟨rfl,rfl⟩:=hrel
  go_wp2_with fail
  refine(rwhole _ _).mono ?_;rintro e w1 ⟨rfl,hb1⟩
  have hz1:w.heap.size<w1.heap.size:=by have:=hb1.size;simp at this;omega
  have hT:Two w w.heap.size w1.heap.size (fun o=>[I 0,I 0,I 0,Value.string E0][o]?) (fun o=>[I 2,I 0,I 0,Value.string E0][o]?) (w1.alloc (.cells #[I 2,I 0,I 0,.string E0] 31)):=by
   refine⟨?_,fun o=>by simp,?_,fun o=>by simp,(((G.refl w).alloc _).trans hb1).alloc _,by simp;omega,by simp⟩
   ·exact G.cells (hb1.alloc _) (fun o=>by simp) (by simp)
   ·exact G.frozens (hb1.alloc _) (fun o=>by simp) (by simp)
  clear hb1;have HT0:Hid _:=hT;clear hT;generalize hB5:w1.heap.size=B5 at HT0 hz1
  go_wp2
  go_loopw [6] (fun i W=>i=.int .i64 0∧Hid (Two w w.heap.size B5 (fun o=>[I 0,I 0,I 0,Value.string E0][o]?) (fun o=>[I 2,I 0,I 0,Value.string E0][o]?) W)) (fun _ _=>0)
  case atStart=>exact⟨rfl,HT0.out⟩
  case round=>
   obtain⟨rfl,HS⟩:=hrel;obtain⟨c2,c5,f2,f5,hG6,z2,z5⟩:=HS.out;clear HS
   go_wp2
   exact bodyPost_ret (v:=.tuple #[V 2 0 0 E0,.int .i64 0]) (by simp[results,results97,go_sem,c2]) rfl ⟨rfl,by
    repeat(first|exact hG6|refine G.setCell ?_ (Nat.le_refl _) _)⟩
theorem zLy{D:List Qd}(hD:zBq D){rv:Value}{c:Int}{q:Qd}(h:SR D rv c q)(x:Value)(w:World)(hV:VRow w x D):CG 97 #[x] w (.tuple #[q.W,.int .i64 c]):=by
 have hV':=hV
 rcases hV with ⟨rfl,hn⟩|⟨b,off,cap,rfl,_,_⟩
 ·subst hn
  rcases h with ⟨h,_⟩|⟨_,m,_,⟨_,_,rfl,rfl⟩|⟨h,_⟩⟩
  ·cases h
  ·exact zOC w
  ·exact absurd h (Nat.not_lt_zero _)
 ·rcases h with ⟨hA,_,rfl,rfl⟩|⟨hA,m,hm,hr⟩
  ·exact zOB b off cap D hD.2 w hV' hA
  ·exact zLC b off cap D (zF2 hD hA) hD.2 w hV' m hm c q (by
    rcases hr with ⟨h1,_,h2,h3⟩|⟨h1,_,h2,h3⟩
    ·exact .inl ⟨h1,h2,h3⟩
    ·exact .inr ⟨h1,h2,h3⟩)
theorem zJZ(a:Option Addr)(cap:Nat)(w:World):CG 98 #[.slice a 0 cap] w (.tuple #[V0,.int .i64 0]):=by
 go_enter func98,ntmps98
 go_wp2
 exact bodyPost_ret (v:=.tuple #[V0,.int .i64 0]) (by simp[results,results98,go_sem]) rfl ⟨rfl,by repeat(first|exact G.refl _|refine G.alloc ?_ _|refine G.setCell ?_ (by simp) _)⟩
theorem zLN(a:Option Addr)(n cap:Nat)(h0:0<n)(q:Qd)(c:Int)(hc:(c != 0)=true)(w:World)(h:∀W,G w W→CG 97 #[.slice a n cap] W (.tuple #[q.W,.int .i64 c])) :
  CG 98 #[.slice a n cap] w (.tuple #[V0,.int .i64 c]):=by
 have H:Hid _:=h;have z:((n:Int)==0)=false:=beq_false_of_ne (by omega);clear h h0;obtain⟨qk,qa,qb,qs⟩:=q
 go_enter func98,ntmps98
 go_wp2_with fail
 refine(H.out _ ((G.refl w).alloc _)).mono ?_;rintro e w1 ⟨rfl,hb1⟩
 have hz1:w.heap.size<w1.heap.size:=by have:=hb1.size;simp at this;omega
 have g1:G w w1:=((G.refl w).alloc _).trans hb1;obtain⟨hc1,hf1⟩:=hb1.rules
 go_wp2
 exact bodyPost_ret (v:=.tuple #[V0,.int .i64 c]) (by simp[results,results98,go_sem,hc1,hz1]) rfl ⟨rfl,by
  repeat(first|exact g1|refine G.alloc ?_ _|refine G.setCell ?_ (by simp;try omega) _)⟩
abbrev RM(w:World)(B4:Nat)(tk ta tb:Int)(ts:ByteArray)(W:World):Prop:=(∀(o:Nat),W.cell? {block:=B4,off:=o}=[I tk,I ta,I tb,Value.string ts][o]?)∧G w W∧B4<W.heap.size∧w.heap.size<B4
theorem RM.keep{w W W':World}{B4:Nat}{tk ta tb:Int}{ts:ByteArray}(hb:G W W')(h:RM w B4 tk ta tb ts W):RM w B4 tk ta tb ts W':=
 ⟨G.cells hb h.1 h.2.2.1,h.2.1.trans hb,Nat.lt_of_lt_of_le h.2.2.1 hb.size,h.2.2.2⟩
theorem RM.set{w W:World}{B4:Nat}{tk ta tb:Int}{ts:ByteArray}(j:Nat)(u:Value)(h:RM w B4 tk ta tb ts W):RM w B4 tk ta tb ts (W.setCell ⟨w.heap.size,j,none⟩ u):=
 ⟨fun o=>by rw[World.cell?_setCell_far _ _ _ _ (by have:=h.2.2.2;simp only;omega)];exact h.1 o,h.2.1.setCell (Nat.le_refl _) _,by simpa using h.2.2.1,h.2.2.2⟩
theorem zOM(a:Option Addr)(n cap:Nat)(h0:0<n)(t q:Qd)(c:Int)(w:World)(h:∀W,G w W→CG 97 #[.slice a n cap] W (.tuple #[t.W,.int .i64 0]))
  (h2:∀w,CG 47 #[.int .i64 4,t.W,Qd.W (2,(n:Int),0,E0)] w (.tuple #[q.W,.int .i64 c])) :
  CG 98 #[.slice a n cap] w (.tuple #[q.W,.int .i64 c]):=by
 have H:Hid _:=h;have H2:Hid _:=h2;have z:((n:Int)==0)=false:=beq_false_of_ne (by omega);clear h h0 h2;obtain⟨qk,qa,qb,qs⟩:=q;obtain⟨tk,ta,tb,ts⟩:=t
 go_enter func98,ntmps98
 go_wp2_with fail
 refine(H.out _ ((G.refl w).alloc _)).mono ?_;rintro e w1 ⟨rfl,hb1⟩
 have hz1:w.heap.size<w1.heap.size:=by have:=hb1.size;simp at this;omega
 have hr0:RM w w1.heap.size tk ta tb ts (w1.alloc (.cells #[I tk,I ta,I tb,.string ts] 31)):=⟨fun o=>by simp,(((G.refl w).alloc _).trans hb1).alloc _,by simp,hz1⟩;have hA0:∀(o:Nat),(w1.alloc (.cells #[I tk,I ta,I tb,.string ts] 31)).cell? {block:=w.heap.size,off:=o}=[I 0,I 0,I 0,Value.string E0][o]?:=G.cells (hb1.alloc _) (fun o=>by simp) (by simp);have hF0:∀(o:Nat),(w1.alloc (.cells #[I tk,I ta,I tb,.string ts] 31)).frozen? {block:=w.heap.size,off:=o}=false:=G.frozens (hb1.alloc _) (fun o=>by simp) (by simp)
 have hz0:w.heap.size<(w1.alloc (.cells #[I tk,I ta,I tb,.string ts] 31)).heap.size:=by simp;omega
 clear hb1
 go_wp2
 generalize (w1.alloc (.cells #[I tk,I ta,I tb,.string ts] 31))=W0 at hr0 hA0 hF0 hz0⊢;generalize w1.heap.size=B4 at hr0⊢;clear hz1
 go_region_held3 (fun W=>(∀(o:Nat),W.cell? {block:=B4,off:=o}=[I tk,I ta,I tb,Value.string ts][o]?)∧G w W∧B4<W.heap.size∧w.heap.size<B4)
  ((first|assumption|(repeat(first|exact hr0|assumption|refine RM.set _ _ ?_|refine RM.keep hb6 ?_|refine RM.keep hb5 ?_|refine RM.keep (G.drew (G.refl _)) ?_))))
  (first|(go_at_call 39;refine(rwhole _ _).mono ?_;rintro e w5 ⟨rfl,hb5⟩;obtain⟨hc5,hf5⟩:=hb5.rules;have hz5:w.heap.size<w5.heap.size:=(by have:=hb5.size;first|omega|(simp at this;omega));have hA5:∀(o:Nat),w5.cell? {block:=w.heap.size,off:=o}=[I 0,I 0,I 0,Value.string E0][o]?:=(by intro o;rw[hc5 _ _ (by first|omega|(simp;omega))];first|exact hA0 o|simp[hA0]);have hF5:∀(o:Nat),w5.frozen? {block:=w.heap.size,off:=o}=false:=(by intro o;rw[hf5 _ _ (by first|omega|(simp;omega))];first|exact hF0 o|simp[hF0]);clear hc5 hf5)|(go_at_call 47;refine(H2.out _).mono ?_;rintro e w6 ⟨rfl,hb6⟩;obtain⟨hc6,hf6⟩:=hb6.rules;have hz6:w.heap.size<w6.heap.size:=(by have:=hb6.size;first|omega|(simp at this;omega));have hA6:∀(o:Nat),w6.cell? {block:=w.heap.size,off:=o}=[I 0,I 0,I 0,Value.string E0][o]?:=(by intro o;rw[hc6 _ _ (by first|omega|(simp;omega))];first|exact hA5 o|simp[hA5]);have hF6:∀(o:Nat),w6.frozen? {block:=w.heap.size,off:=o}=false:=(by intro o;rw[hf6 _ _ (by first|omega|(simp;omega))];first|exact hF5 o|simp[hF5]);clear hc6 hf6)|fail)
 rename_i hH
 have hgE:=hH.2.1;clear hH hb5 hb6 hr0
 go_wp2
 exact bodyPost_ret (v:=.tuple #[V qk qa qb qs,.int .i64 c]) (by simp[results,results98,go_sem,hA6]) rfl ⟨rfl,hgE⟩
theorem zVV{D:List Qd}(hD:zBq D){rv:Value}{c:Int}{q:Qd}(h:FR 5 D rv c q)(x:Value)(w:World)(hV:VRow w x D):CG 98 #[x] w (.tuple #[q.W,.int .i64 c]):=by
 have nn:D=[]→∃a cap,x=.slice a 0 cap:=fun e=>by
  rcases hV with ⟨rfl,_⟩|⟨g,off,cap,rfl,_,_⟩
  ·exact⟨_,_,rfl⟩
  ·exact⟨_,cap,by rw[e];rfl⟩
 have som:D≠[]→∃a cap,x=.slice a D.length cap:=fun e=>by
  rcases hV with ⟨rfl,hn⟩|⟨g,off,cap,rfl,_,_⟩
  ·exact absurd hn e
  ·exact⟨_,cap,rfl⟩
 rcases h with ⟨h,_⟩|⟨h,_⟩|⟨_,hn,rfl,rfl,rfl⟩|⟨h,_⟩|⟨h,_⟩|⟨_,hne,hm⟩
 iterate 2
  ·omega
 ·obtain⟨a,cap,rfl⟩:=nn hn
  exact zJZ a cap w
 iterate 2
  ·omega
 ·obtain⟨a,cap,rfl⟩:=som hne
  have h0:=List.length_pos_iff.2 hne
  rcases hm with ⟨rv0,hs,hc,rfl⟩|⟨rv0,q0,hs,hst⟩
  ·have hq:q=Q0:=by
    rcases hs with ⟨_,_,_,rfl⟩|⟨_,m,_,⟨_,_,h0,_⟩|⟨_,_,_,rfl⟩⟩
    ·rfl
    ·exact absurd h0 hc
    ·rfl
   have hS:=fun W (g:G w W)=>zLy hD hs _ W (hV.G g);rw[hq];exact zLN a _ cap h0 q c (by simpa using hc) w hS
  ·exact zOM a _ cap h0 q0 q c w (fun W g=>zLy hD hs _ W (hV.G g)) hst.2.2
end
section
open Go.RowKit Go.Lib Go.Shelf
theorem zCh:(prog.info? 31).map (fun i=>(i.zero,i.size,i.bytes))=some (some V0,4,40):=by kernel_rfl
def flat(D:List Qd):List Value:=D.flatMap Qd.C
theorem zF4:∀D:List Qd,(flat D).length=D.length*4
 | []=>rfl
 | q::D=>by
  show(q.C++flat D).length=_;have e:q.C.length=4:=rfl;rw[List.length_append,zF4 D,e];show 4+D.length*4=(D.length+1)*4;omega
theorem zH6:∀(D:List Qd) (i:Nat) (q:Qd),D[i]?=some q→∀j,j<4→(flat D)[i*4+j]?=q.C[j]?
 | [],i,q,h,_,_=>by simp at h
 | p::D,0,q,h,j,hj=>by
  simp at h;subst h;show(p.C++flat D)[0*4+j]?=_;rw[List.getElem?_append_left (by show 0*4+j<4;omega)];simp only[Nat.zero_mul,Nat.zero_add]
 | p::D,i+1,q,h,j,hj=>by
  rw[List.getElem?_cons_succ] at h;show(p.C++flat D)[(i+1)*4+j]?=_;rw[List.getElem?_append_right (by show 4≤(i+1)*4+j;omega)]
  have e:(i+1)*4+j-p.C.length=i*4+j:=by show(i+1)*4+j-4=_;omega
  rw[e];exact zH6 D i q h j hj
theorem zBQ(D:List Qd)(q:Qd):flat (D++[q])=flat D++q.C:=by
 unfold flat;rw[List.flatMap_append];simp
theorem zC0{w:World}{base:Nat}{e:TypeId}{x:Value}{D:List Qd}(h:w.ownsRow base e 4 x D.length (flat D)):VRow w x D:=by
 rcases h.2 with ⟨rfl,hn⟩|⟨g,cap,cur,rfl,_,hh,hc,_,hs,ht⟩
 ·exact .inl ⟨rfl,List.eq_nil_of_length_eq_zero hn⟩
 ·refine .inr ⟨g,0,cap,rfl,hc,fun i q hi j hj=>?_⟩
  obtain⟨u,hu⟩:=zMh q j hj;have:=h.cells (g:=g) rfl (i*4+j) u ((zH6 D i q hi j hj).trans hu)
  have e:(⟨g,0,none⟩:Addr).add (i*4+j)=⟨g,0+(i*4+j),none⟩:=by
   unfold Addr.add
   split<;>simp_all
  rw[e] at this;rw[this,hu]
theorem zAF{L:List Qd}{m:Nat}{q:Qd}(h:L[m]?=some q):zAc (L.take (m+1))=zAc (L.take m)++(if q.1 != 0 then [q] else []):=by
 unfold zAc;rw[zCv h,List.filter_append]
 congr 1
 by_cases c:(q.1 != 0)=true
 ·simp[List.filter,c]
 ·have c':(q.1 != 0)=false:=by simpa using c
  simp[List.filter,c']
theorem zCG(L:List Qd)(m:Nat):(zAc (L.take m)).length≤L.length:=by
 unfold zAc;exact Nat.le_trans (List.length_filter_le _ _) (by simp;omega)
theorem zWS(x y:Int):cI x y = -1∨cI x y=0∨cI x y=1:=by
 unfold cI
 by_cases h:x<y
 ·simp[h]
 ·by_cases h':y<x<;>simp[h,h']
theorem zWQ(a b:List UInt8):compareBytes a b = -1∨compareBytes a b=0∨compareBytes a b=1:=by
 induction a generalizing b with
 | nil=>cases b<;>simp[compareBytes]
 | cons x xs ih=>
  cases b with
  | nil=>simp[compareBytes]
  | cons y ys=>
   unfold compareBytes
   repeat' split
   all_goals first|exact ih _|simp
theorem zJA(q q':Qd):cmpQ q q' = -1∨cmpQ q q'=0∨cmpQ q q'=1:=by
 unfold cmpQ cmpR or5
 repeat' split
 all_goals first|exact zWS _ _|exact zWQ _ _
theorem zW2:Qd.ok Q0=true:=by
 unfold Qd.ok
 kernel_rfl
theorem zQ7(q q':Qd)(h:q.ok=true)(h':q'.ok=true)(hs:q.2.2.2.size≤4611686018427387904)(hs':q'.2.2.2.size≤4611686018427387904)(w:World):CG 19 #[q.W,q'.W] w (.int .i64 (cmpQ q q')):=by
 obtain⟨k,a,b,s⟩:=q;obtain⟨k',a',b',s'⟩:=q';unfold Qd.ok at h h';unfold cmpQ;simp only at h h' hs hs'⊢;have hk:=zAp k a b s h;have hk':=zAp k' a' b' s' h';obtain⟨n,rfl⟩:∃n:Nat,k=n:=⟨k.toNat,by omega⟩;obtain⟨n',rfl⟩:∃n:Nat,k'=n:=⟨k'.toNat,by omega⟩;exact zMc _ _ _ _ _ _ s s' hs hs' (fun w=>by have:=zAm n a b s hs w;rw[h] at this;exact this) (fun w=>by have:=zAm n' a' b' s' hs' w;rw[h'] at this;exact this) w
noncomputable def bx(D:List Qd)(side:Int):Nat→Qd
 | 0=>Q0
 | m+1=>D.getD (bst D side m) Q0
theorem zJG{D:List Qd}{q:Qd}(side:Int)(h:D[0]?=some q):bx D side 1=q:=by
 show D.getD 0 Q0=q;rw[List.getD_eq_getElem?_getD,h];rfl
theorem zNV{D:List Qd}{q:Qd}(side:Int){m:Nat}(h0:m≠0)(h:D[m]?=some q):bx D side (m+1)=if cmpQ q (bx D side m)=side then q else bx D side m:=by
 obtain⟨n,rfl⟩:∃n,m=n+1:=⟨m-1,by omega⟩
 have e:D.getD (n+1) (0,0,0,E0)=q:=by rw[List.getD_eq_getElem?_getD,h];rfl
 show D.getD (if cmpQ (D.getD (n+1) (0,0,0,E0)) (D.getD (bst D side n) (0,0,0,E0))=side then n+1 else bst D side n) Q0=if cmpQ q (D.getD (bst D side n) Q0)=side then q else D.getD (bst D side n) Q0;rw[e]
 split
 ·exact e
 ·rfl
theorem zJF{D:List Qd}(side:Int){m:Nat}(hm:m≤D.length):bx D side m=Q0∨bx D side m∈D:=by
 cases m with
 | zero=>exact .inl rfl
 | succ m=>
  right;have:=zFz D side m;show D.getD (bst D side m) Q0∈D;rw[List.getD_eq_getElem?_getD,List.getElem?_eq_getElem (show bst D side m<D.length by omega)];exact List.getElem_mem _
def RT(w0:World)(B4 B8 b o:Nat)(tk ta tb:Int)(ts:ByteArray)(qk qa qb:Int)(qs:ByteArray)(W:World):Prop:=(∀(o:Nat),W.cell? {block:=B8,off:=o}=[I tk,I ta,I tb,Value.string ts][o]?)∧W.cell? {block:=b,off:=o}=some (I qk)∧W.cell? {block:=b,off:=o+1}=some (I qa)∧W.cell? {block:=b,off:=o+2}=some (I qb)∧W.cell? {block:=b,off:=o+3}=some (.string qs)∧
 (∀(o:Nat),W.cell? {block:=B4,off:=o}=[I 0,I 0,I 0,Value.string E0][o]?)∧(∀(o:Nat),W.frozen? {block:=B4,off:=o}=false)∧(∀(o:Nat),W.frozen? {block:=B8,off:=o}=false)∧G w0 W∧B4<W.heap.size∧B8<W.heap.size
theorem RT.keep{w0 W W':World}{B4 B8 b o:Nat}{tk ta tb:Int}{ts:ByteArray}{qk qa qb:Int}{qs:ByteArray}(hb:G W W')(h:RT w0 B4 B8 b o tk ta tb ts qk qa qb qs W):RT w0 B4 B8 b o tk ta tb ts qk qa qb qs W':=by
 obtain⟨h1,h2,h3,h4,h5,h6,h7,h8,h9,h10,h11⟩:=h;exact⟨G.cells hb h1 h11,(hb.cell (zDa h2)).trans h2,(hb.cell (zDa h3)).trans h3,(hb.cell (zDa h4)).trans h4,(hb.cell (zDa h5)).trans h5,G.cells hb h6 h10,G.frozens hb h7 h10,G.frozens hb h8 h11,h9.trans hb,Nat.lt_of_lt_of_le h10 hb.size,Nat.lt_of_lt_of_le h11 hb.size⟩
theorem zUW{w0 W:World}{B4 B8 b off n cap m:Nat}{t q:Qd}{D:List Qd}(h:SBox w0 t B4 B8 W)(hV:VRow W (.slice (some ⟨b,off,none⟩) n cap) D)(hq:D[m]?=some q):RT w0 B4 B8 b (off+m*4) t.1 t.2.1 t.2.2.1 t.2.2.2 q.1 q.2.1 q.2.2.1 q.2.2.2 W:=by
 obtain⟨h1,h2,h3,h4,h5,h6,h7⟩:=h;obtain⟨c0,c1,c2,c3⟩:=zBa hV hq;exact⟨h2,c0,c1,c2,c3,h1,h3,h4,h5,h6,h7⟩
theorem zCt{w:World}{x:Value}{D:List Qd}(h:VRow w x D):∃a cap,x=.slice a D.length cap:=by
 rcases h with ⟨h,hn⟩|⟨b,off,cap2,h,_⟩
 ·exact⟨_,_,by rw[h,hn];rfl⟩
 ·exact⟨_,_,h⟩
theorem fr1{D:List Qd}{rv:Value}{c:Int}{q:Qd}(h:FR 1 D rv c q):c=0∧q=(2,(D.length:Int),0,E0):=by
 rcases h with ⟨_,_,h1,h2⟩|⟨h,_⟩|⟨h,_⟩|⟨h,_⟩|⟨h,_⟩|⟨h,_⟩
 ·exact⟨h1,h2⟩
 all_goals omega
theorem fr2{D:List Qd}{rv:Value}{c:Int}{q:Qd}(h:FR 2 D rv c q):SR D rv c q:=by
 rcases h with ⟨h,_⟩|⟨_,h⟩|⟨h,_⟩|⟨h,_⟩|⟨h,_⟩|⟨h,_⟩
 ·omega
 ·exact h
 all_goals omega
theorem zRy{D:List Qd}(side:Int)(hne:D≠[]):D.getD (bst D side (D.length-1)) Q0=bx D side D.length:=by
 have:=List.length_pos_iff.2 hne;obtain⟨n,hn⟩:∃n,D.length=n+1:=⟨D.length-1,by omega⟩;rw[hn];rfl
theorem fr3{D:List Qd}{rv:Value}{c:Int}{q:Qd}(h:FR 3 D rv c q):c=0∧q=bx D (-1) D.length:=by
 rcases h with ⟨h,_⟩|⟨h,_⟩|⟨_,hn,_,h1,h2⟩|⟨_,hne,_,h1,h2⟩|⟨h,_⟩|⟨h,_⟩
 iterate 2
  ·omega
 ·subst hn;exact⟨h1,h2⟩
 ·exact⟨h1,h2.trans (zRy _ hne)⟩
 all_goals omega
theorem fr4{D:List Qd}{rv:Value}{c:Int}{q:Qd}(h:FR 4 D rv c q):c=0∧q=bx D 1 D.length:=by
 rcases h with ⟨h,_⟩|⟨h,_⟩|⟨_,hn,_,h1,h2⟩|⟨h,_⟩|⟨_,hne,_,h1,h2⟩|⟨h,_⟩
 iterate 2
  ·omega
 ·subst hn;exact⟨h1,h2⟩
 ·omega
 ·exact⟨h1,h2.trans (zRy _ hne)⟩
 ·omega
end
section
open Go.RowKit Go.Lib Go.Shelf
theorem zSG(a:Option Addr)(cap:Nat)(L:List Qd)(w:World)(hV:L=[]∨VRow w (.slice a L.length cap) L)(hs:∀q∈L,q.2.2.2.size≤4611686018427387904)(hn:L.length*40≤140737488351232)(rv:Value)(c:Int)(q:Qd)
  (hR:(L.all Qd.ok=true∧zBq (zAc L)∧FR 1 (zAc L) rv c q)∨(L.all Qd.ok=false∧c=16∧q=Q0)):CG 54 #[.int .i64 1,.slice a L.length cap] w (.tuple #[q.W,.int .i64 c]):=by
 obtain⟨i0,hi,hz0,hz1,hz2⟩:=info_parts zCh;have HV:Hid _:=hV;have HR:Hid _:=hR;have HSL:Hid _:=hs;clear hV hR hs;obtain⟨qk,qa,qb,qs⟩:=q
 go_enter func54,ntmps54
 go_wp2
 go_loopw [6,7] (fun x i W=>∃m:Nat,m≤L.length∧i=.int .i64 m∧Hid (G (w.alloc (.cells #[I 0,I 0,I 0,.string E0] 31)) W)∧Hid (W.ownsRow (w.alloc (.cells #[I 0,I 0,I 0,.string E0] 31)).heap.size 31 4 x (zAc (L.take m)).length (flat (zAc (L.take m))))∧Hid ((L.take m).all Qd.ok=true)) (fun _ i _=>L.length-(RowKit.intOf i).toNat)
 case atStart=>exact⟨0,by omega,rfl,G.refl _,World.ownsRow_nil _ _ _ _,rfl⟩
 case round=>
  obtain⟨m,hm,rfl,HG,HO,HA⟩:=hrel
  by_cases hlt:m<L.length
  ·obtain⟨q,hq⟩:∃q,L[m]?=some q:=⟨L[m],List.getElem?_eq_getElem hlt⟩
   obtain⟨b,off,ea⟩:∃b off,a=some ⟨b,off,none⟩:=by
    rcases HV.out with hn|⟨h,hn⟩|⟨b,off,cap2,h,_⟩
    iterate 2
     ·rw[hn] at hlt;exact absurd hlt (Nat.not_lt_zero _)
    ·injection h with h _ _;exact⟨b,off,h⟩
   subst ea
   have HV':Hid (VRow w (.slice (some ⟨b,off,none⟩) L.length cap) L):=by
    rcases HV.out with hn|h
    ·rw[hn] at hlt;exact absurd hlt (Nat.not_lt_zero _)
    ·exact h
   have HC:Hid (∀W,G (w.alloc (.cells #[I 0,I 0,I 0,.string E0] 31)) W→W.cell? ⟨b,off+m*4,none⟩=some (I q.1)∧W.cell? ⟨b,off+m*4+1,none⟩=some (I q.2.1)∧W.cell? ⟨b,off+m*4+2,none⟩=some (I q.2.2.1)∧W.cell? ⟨b,off+m*4+3,none⟩=some (.string q.2.2.2)):=fun W g=>zBa (VRow.G HV'.out (((G.refl w).alloc _).trans g)) hq
   have R1:Hid (q.1=0→zAc (L.take (m+1))=zAc (L.take m)):=fun hk=>by rw[zAF hq,hk];simp
   have R2:Hid (q.1≠0→zAc (L.take (m+1))=zAc (L.take m)++[q]):=fun hk=>by rw[zAF hq];simp[hk]
   have R3:Hid (q.ok=true→(L.take (m+1)).all Qd.ok=true):=zC5 hq HA.out;have R4:Hid (q.ok=false→L.all Qd.ok=false):=zFB hq;have hsz:=HSL.out q (List.mem_of_getElem? hq);have hle:=zCG L m;clear hq;obtain⟨k,a1,b1,s1⟩:=q;simp only[Qd.ok] at R1 R2 R3 R4 HC hsz;have HI:Hid _:=zAm k a1 b1 s1 hsz;clear hsz;obtain⟨h0,h1,h2,h3⟩:=HC.out wr HG.out;cases hok:okV k a1 b1 s1
   ·have R4':Hid _:=R4.out hok
    rw[hok] at HI;clear R1 R2 R3 R4 hok
    go_wp2_with fail
    refine(HI.out _).mono ?_;rintro e w1 ⟨rfl,hb1⟩;have HG1:Hid (G (w.alloc (.cells #[I 0,I 0,I 0,.string E0] 31)) w1):=HG.out.trans hb1;have cB:∀(o:Nat),w1.cell? {block:=w.heap.size,off:=o}=[I 0,I 0,I 0,Value.string E0][o]?:=G.cells HG1.out (fun o=>by simp) (by simp);have fB:∀(o:Nat),w1.frozen? {block:=w.heap.size,off:=o}=false:=G.frozens HG1.out (fun o=>by simp) (by simp);have gE:G w w1:=((G.refl w).alloc _).trans HG1.out
    have hq:c=16∧(qk,qa,qb,qs)=Q0:=by
     rcases HR.out with ⟨h,_⟩|⟨_,h⟩
     ·rw[R4'.out] at h;cases h
     ·exact h
    have HQ:Hid _:=hq;clear hb1 h0 h1 h2 h3 hq
    go_wp2
    exact bodyPost_ret (v:=.tuple #[V0,.int .i64 16]) (by simp[results,results54,go_sem,cB]) rfl ⟨by rw[HQ.out.1,HQ.out.2],by repeat(first|exact gE|refine G.setCell ?_ (Nat.le_refl _) _)⟩
   ·have R3':Hid _:=R3.out hok
    rw[hok] at HI;clear R3 R4 hok
    go_wp2_with fail
    refine(HI.out _).mono ?_;rintro e w1 ⟨rfl,hb1⟩;clear h0 h1 h2 h3;have HG1:Hid (G (w.alloc (.cells #[I 0,I 0,I 0,.string E0] 31)) w1):=HG.out.trans hb1;have HO1:Hid (w1.ownsRow (w.alloc (.cells #[I 0,I 0,I 0,.string E0] 31)).heap.size 31 4 _ (zAc (L.take m)).length (flat (zAc (L.take m)))):=zCe HO.out hb1;obtain⟨h0,h1,h2,h3⟩:=HC.out w1 HG1.out;clear hb1 HG HO
    by_cases hk:k=0
    ·have R1':Hid _:=R1.out hk
     have hk':(k != 0)=false:=by simp[hk]
     clear R1 R2 hk
     go_wp2
     go_roundw
     case rel=>exact⟨m+1,by omega,by go_num,HG1.out,by unfold Hid;rw[R1'.out];exact HO1.out,R3'.out⟩
     case measure=>simp[RowKit.intOf];omega
    ·have R2':Hid _:=R2.out hk
     have hk':(k != 0)=true:=by simpa using hk
     clear R1 R2 hk
     go_wp2_with (at_builtin;refine wpList_append_own _ rfl _ _ 32 rfl (w.alloc (.cells #[I 0,I 0,I 0,.string E0] 31)).heap.size 31 i0 V0 4 40 underlying32 hi hz0 hz1 hz2 rfl (by decide) _ _ _ rfl (World.ownsRow.alloc HO1.out _) ⟨w1.heap.size,0,none⟩ 1 1 [I k,I a1,I b1,.string s1] rfl rfl ?c1 ?c2 ?c3 ?c4 ?c5 ?_)
     case c1=>
      intro j u hj
      match j,hj with
      | 0,hj=>simp at hj;subst hj;simp[Addr.add]
      | 1,hj=>simp at hj;subst hj;simp[Addr.add]
      | 2,hj=>simp at hj;subst hj;simp[Addr.add]
      | 3,hj=>simp at hj;subst hj;simp[Addr.add]
     case c2=>
      intro u hu;simp at hu
      rcases hu with rfl|rfl|rfl|rfl<;>rfl
     case c3=>unfold maxLen;omega
     case c4=>omega
     case c5=>have:=HG1.out.size;simp at this ⊢;omega
     intro x' w3 hown3 hgrow _;have HG3:Hid (G (w.alloc (.cells #[I 0,I 0,I 0,.string E0] 31)) w3):=Below.grown (HG1.out.alloc _) hgrow (by have:=HG1.out.size;simp at this ⊢;omega) (fun g hg=>(World.ownsRow.lt HO1.out g hg).1)
     have HO3:Hid (w3.ownsRow (w.alloc (.cells #[I 0,I 0,I 0,.string E0] 31)).heap.size 31 4 x' (zAc (L.take (m+1))).length (flat (zAc (L.take (m+1))))):=by
      unfold Hid
      have es:(w.alloc (.cells #[I 0,I 0,I 0,.string E0] 31)).heap.size=w.heap.size+1:=by simp
      rw[R2'.out,List.length_append,zBQ,es];exact hown3
     clear hown3 hgrow
     go_wp2
     go_roundw
     case rel=>exact⟨m+1,by omega,by go_num,HG3.out,HO3.out,R3'.out⟩
     case measure=>simp[RowKit.intOf];omega
  ·have e:L.take m=L:=List.take_of_length_le (by omega)
   have hFG:zBq (zAc L)∧FR 1 (zAc L) rv c (qk,qa,qb,qs):=by
    have hall:=HA.out;rw[e] at hall
    rcases HR.out with ⟨_,h⟩|⟨h,_⟩
    ·exact h
    ·rw[hall] at h;cases h
   have HSz:Hid (∀q∈zAc L,q.2.2.2.size≤4611686018427387904):=fun q hq=>HSL.out q (List.mem_filter.1 hq).1;rw[e] at HO;generalize zAc L=D at HO hFG HSz;have HGd:Hid (zBq D):=hFG.1;have HF:Hid (FR 1 D rv c (qk,qa,qb,qs)):=hFG.2;have HVD:Hid _:=zC0 HO.out;obtain⟨a',cap',hx⟩:=zCt HVD.out;subst hx;have HGw:Hid (G w wr):=((G.refl w).alloc _).trans HG.out;have hcB:∀(o:Nat),wr.cell? {block:=w.heap.size,off:=o}=[I 0,I 0,I 0,Value.string E0][o]?:=G.cells HG.out (fun o=>by simp) (by simp);have hfB:∀(o:Nat),wr.frozen? {block:=w.heap.size,off:=o}=false:=G.frozens HG.out (fun o=>by simp) (by simp)
   have hzB:w.heap.size<wr.heap.size:=by have:=HG.out.size;simp at this;omega
   have hDn:D.length≤140737488351232:=HGd.out.2;clear HG HO HA hFG e hm;generalize wr=w0 at HVD HGw hcB hfB hzB⊢;obtain⟨rfl,hq⟩:=fr1 HF.out;have HQ:Hid _:=hq;clear hq HF
   go_wp2_with fail
   refine(rwhole _ _).mono ?_;rintro e w5 ⟨rfl,hb5⟩;have cB:∀(o:Nat),w5.cell? {block:=w.heap.size,off:=o}=[I 0,I 0,I 0,Value.string E0][o]?:=G.cells hb5 hcB hzB;have fB:∀(o:Nat),w5.frozen? {block:=w.heap.size,off:=o}=false:=G.frozens hb5 hfB hzB;have gE:G w w5:=HGw.out.trans hb5;clear hb5 hcB hfB hzB
   go_wp2
   exact bodyPost_ret (v:=.tuple #[V 2 (D.length:Int) 0 E0,.int .i64 0]) (by simp[results,results54,go_sem,cB]) rfl ⟨by rw[HQ.out],by repeat(first|exact gE|refine G.setCell ?_ (Nat.le_refl _) _)⟩
theorem zSF(a:Option Addr)(cap:Nat)(L:List Qd)(w:World)(hV:L=[]∨VRow w (.slice a L.length cap) L)(hs:∀q∈L,q.2.2.2.size≤4611686018427387904)(hn:L.length*40≤140737488351232)(rv:Value)(c:Int)(q:Qd)
  (hR:(L.all Qd.ok=true∧zBq (zAc L)∧FR 2 (zAc L) rv c q)∨(L.all Qd.ok=false∧c=16∧q=Q0)):CG 54 #[.int .i64 2,.slice a L.length cap] w (.tuple #[q.W,.int .i64 c]):=by
 obtain⟨i0,hi,hz0,hz1,hz2⟩:=info_parts zCh;have HV:Hid _:=hV;have HR:Hid _:=hR;have HSL:Hid _:=hs;clear hV hR hs;obtain⟨qk,qa,qb,qs⟩:=q
 go_enter func54,ntmps54
 go_wp2
 go_loopw [6,7] (fun x i W=>∃m:Nat,m≤L.length∧i=.int .i64 m∧Hid (G (w.alloc (.cells #[I 0,I 0,I 0,.string E0] 31)) W)∧Hid (W.ownsRow (w.alloc (.cells #[I 0,I 0,I 0,.string E0] 31)).heap.size 31 4 x (zAc (L.take m)).length (flat (zAc (L.take m))))∧Hid ((L.take m).all Qd.ok=true)) (fun _ i _=>L.length-(RowKit.intOf i).toNat)
 case atStart=>exact⟨0,by omega,rfl,G.refl _,World.ownsRow_nil _ _ _ _,rfl⟩
 case round=>
  obtain⟨m,hm,rfl,HG,HO,HA⟩:=hrel
  by_cases hlt:m<L.length
  ·obtain⟨q,hq⟩:∃q,L[m]?=some q:=⟨L[m],List.getElem?_eq_getElem hlt⟩
   obtain⟨b,off,ea⟩:∃b off,a=some ⟨b,off,none⟩:=by
    rcases HV.out with hn|⟨h,hn⟩|⟨b,off,cap2,h,_⟩
    iterate 2
     ·rw[hn] at hlt;exact absurd hlt (Nat.not_lt_zero _)
    ·injection h with h _ _;exact⟨b,off,h⟩
   subst ea
   have HV':Hid (VRow w (.slice (some ⟨b,off,none⟩) L.length cap) L):=by
    rcases HV.out with hn|h
    ·rw[hn] at hlt;exact absurd hlt (Nat.not_lt_zero _)
    ·exact h
   have HC:Hid (∀W,G (w.alloc (.cells #[I 0,I 0,I 0,.string E0] 31)) W→W.cell? ⟨b,off+m*4,none⟩=some (I q.1)∧W.cell? ⟨b,off+m*4+1,none⟩=some (I q.2.1)∧W.cell? ⟨b,off+m*4+2,none⟩=some (I q.2.2.1)∧W.cell? ⟨b,off+m*4+3,none⟩=some (.string q.2.2.2)):=fun W g=>zBa (VRow.G HV'.out (((G.refl w).alloc _).trans g)) hq
   have R1:Hid (q.1=0→zAc (L.take (m+1))=zAc (L.take m)):=fun hk=>by rw[zAF hq,hk];simp
   have R2:Hid (q.1≠0→zAc (L.take (m+1))=zAc (L.take m)++[q]):=fun hk=>by rw[zAF hq];simp[hk]
   have R3:Hid (q.ok=true→(L.take (m+1)).all Qd.ok=true):=zC5 hq HA.out;have R4:Hid (q.ok=false→L.all Qd.ok=false):=zFB hq;have hsz:=HSL.out q (List.mem_of_getElem? hq);have hle:=zCG L m;clear hq;obtain⟨k,a1,b1,s1⟩:=q;simp only[Qd.ok] at R1 R2 R3 R4 HC hsz;have HI:Hid _:=zAm k a1 b1 s1 hsz;clear hsz;obtain⟨h0,h1,h2,h3⟩:=HC.out wr HG.out;cases hok:okV k a1 b1 s1
   ·have R4':Hid _:=R4.out hok
    rw[hok] at HI;clear R1 R2 R3 R4 hok
    go_wp2_with fail
    refine(HI.out _).mono ?_;rintro e w1 ⟨rfl,hb1⟩;have HG1:Hid (G (w.alloc (.cells #[I 0,I 0,I 0,.string E0] 31)) w1):=HG.out.trans hb1;have cB:∀(o:Nat),w1.cell? {block:=w.heap.size,off:=o}=[I 0,I 0,I 0,Value.string E0][o]?:=G.cells HG1.out (fun o=>by simp) (by simp);have fB:∀(o:Nat),w1.frozen? {block:=w.heap.size,off:=o}=false:=G.frozens HG1.out (fun o=>by simp) (by simp);have gE:G w w1:=((G.refl w).alloc _).trans HG1.out
    have hq:c=16∧(qk,qa,qb,qs)=Q0:=by
     rcases HR.out with ⟨h,_⟩|⟨_,h⟩
     ·rw[R4'.out] at h;cases h
     ·exact h
    have HQ:Hid _:=hq;clear hb1 h0 h1 h2 h3 hq
    go_wp2
    exact bodyPost_ret (v:=.tuple #[V0,.int .i64 16]) (by simp[results,results54,go_sem,cB]) rfl ⟨by rw[HQ.out.1,HQ.out.2],by repeat(first|exact gE|refine G.setCell ?_ (Nat.le_refl _) _)⟩
   ·have R3':Hid _:=R3.out hok
    rw[hok] at HI;clear R3 R4 hok
    go_wp2_with fail
    refine(HI.out _).mono ?_;rintro e w1 ⟨rfl,hb1⟩;clear h0 h1 h2 h3;have HG1:Hid (G (w.alloc (.cells #[I 0,I 0,I 0,.string E0] 31)) w1):=HG.out.trans hb1;have HO1:Hid (w1.ownsRow (w.alloc (.cells #[I 0,I 0,I 0,.string E0] 31)).heap.size 31 4 _ (zAc (L.take m)).length (flat (zAc (L.take m)))):=zCe HO.out hb1;obtain⟨h0,h1,h2,h3⟩:=HC.out w1 HG1.out;clear hb1 HG HO
    by_cases hk:k=0
    ·have R1':Hid _:=R1.out hk
     have hk':(k != 0)=false:=by simp[hk]
     clear R1 R2 hk
     go_wp2
     go_roundw
     case rel=>exact⟨m+1,by omega,by go_num,HG1.out,by unfold Hid;rw[R1'.out];exact HO1.out,R3'.out⟩
     case measure=>simp[RowKit.intOf];omega
    ·have R2':Hid _:=R2.out hk
     have hk':(k != 0)=true:=by simpa using hk
     clear R1 R2 hk
     go_wp2_with (at_builtin;refine wpList_append_own _ rfl _ _ 32 rfl (w.alloc (.cells #[I 0,I 0,I 0,.string E0] 31)).heap.size 31 i0 V0 4 40 underlying32 hi hz0 hz1 hz2 rfl (by decide) _ _ _ rfl (World.ownsRow.alloc HO1.out _) ⟨w1.heap.size,0,none⟩ 1 1 [I k,I a1,I b1,.string s1] rfl rfl ?c1 ?c2 ?c3 ?c4 ?c5 ?_)
     case c1=>
      intro j u hj
      match j,hj with
      | 0,hj=>simp at hj;subst hj;simp[Addr.add]
      | 1,hj=>simp at hj;subst hj;simp[Addr.add]
      | 2,hj=>simp at hj;subst hj;simp[Addr.add]
      | 3,hj=>simp at hj;subst hj;simp[Addr.add]
     case c2=>
      intro u hu;simp at hu
      rcases hu with rfl|rfl|rfl|rfl<;>rfl
     case c3=>unfold maxLen;omega
     case c4=>omega
     case c5=>have:=HG1.out.size;simp at this ⊢;omega
     intro x' w3 hown3 hgrow _;have HG3:Hid (G (w.alloc (.cells #[I 0,I 0,I 0,.string E0] 31)) w3):=Below.grown (HG1.out.alloc _) hgrow (by have:=HG1.out.size;simp at this ⊢;omega) (fun g hg=>(World.ownsRow.lt HO1.out g hg).1)
     have HO3:Hid (w3.ownsRow (w.alloc (.cells #[I 0,I 0,I 0,.string E0] 31)).heap.size 31 4 x' (zAc (L.take (m+1))).length (flat (zAc (L.take (m+1))))):=by
      unfold Hid
      have es:(w.alloc (.cells #[I 0,I 0,I 0,.string E0] 31)).heap.size=w.heap.size+1:=by simp
      rw[R2'.out,List.length_append,zBQ,es];exact hown3
     clear hown3 hgrow
     go_wp2
     go_roundw
     case rel=>exact⟨m+1,by omega,by go_num,HG3.out,HO3.out,R3'.out⟩
     case measure=>simp[RowKit.intOf];omega
  ·have e:L.take m=L:=List.take_of_length_le (by omega)
   have hFG:zBq (zAc L)∧FR 2 (zAc L) rv c (qk,qa,qb,qs):=by
    have hall:=HA.out;rw[e] at hall
    rcases HR.out with ⟨_,h⟩|⟨h,_⟩
    ·exact h
    ·rw[hall] at h;cases h
   have HSz:Hid (∀q∈zAc L,q.2.2.2.size≤4611686018427387904):=fun q hq=>HSL.out q (List.mem_filter.1 hq).1;rw[e] at HO;generalize zAc L=D at HO hFG HSz;have HGd:Hid (zBq D):=hFG.1;have HF:Hid (FR 2 D rv c (qk,qa,qb,qs)):=hFG.2;have HVD:Hid _:=zC0 HO.out;obtain⟨a',cap',hx⟩:=zCt HVD.out;subst hx;have HGw:Hid (G w wr):=((G.refl w).alloc _).trans HG.out;have hcB:∀(o:Nat),wr.cell? {block:=w.heap.size,off:=o}=[I 0,I 0,I 0,Value.string E0][o]?:=G.cells HG.out (fun o=>by simp) (by simp);have hfB:∀(o:Nat),wr.frozen? {block:=w.heap.size,off:=o}=false:=G.frozens HG.out (fun o=>by simp) (by simp)
   have hzB:w.heap.size<wr.heap.size:=by have:=HG.out.size;simp at this;omega
   have hDn:D.length≤140737488351232:=HGd.out.2;clear HG HO HA hFG e hm;generalize wr=w0 at HVD HGw hcB hfB hzB⊢;have HS:Hid _:=fr2 HF.out
   go_wp2_with fail
   refine(zLy HGd.out HS.out _ _ HVD.out).mono ?_;rintro e w5 ⟨rfl,hb5⟩;have cB:∀(o:Nat),w5.cell? {block:=w.heap.size,off:=o}=[I 0,I 0,I 0,Value.string E0][o]?:=G.cells hb5 hcB hzB;have fB:∀(o:Nat),w5.frozen? {block:=w.heap.size,off:=o}=false:=G.frozens hb5 hfB hzB;have gE:G w w5:=HGw.out.trans hb5;clear hb5 hcB hfB hzB
   go_wp2
   exact bodyPost_ret (v:=.tuple #[V qk qa qb qs,.int .i64 c]) (by simp[results,results54,go_sem,cB]) rfl ⟨rfl,by repeat(first|exact gE|refine G.setCell ?_ (Nat.le_refl _) _)⟩
theorem zSC(a:Option Addr)(cap:Nat)(L:List Qd)(w:World)(hV:L=[]∨VRow w (.slice a L.length cap) L)(hs:∀q∈L,q.2.2.2.size≤4611686018427387904)(hn:L.length*40≤140737488351232)(rv:Value)(c:Int)(q:Qd)
  (hR:(L.all Qd.ok=true∧zBq (zAc L)∧FR 5 (zAc L) rv c q)∨(L.all Qd.ok=false∧c=16∧q=Q0)):CG 54 #[.int .i64 5,.slice a L.length cap] w (.tuple #[q.W,.int .i64 c]):=by
 obtain⟨i0,hi,hz0,hz1,hz2⟩:=info_parts zCh;have HV:Hid _:=hV;have HR:Hid _:=hR;have HSL:Hid _:=hs;clear hV hR hs;obtain⟨qk,qa,qb,qs⟩:=q
 go_enter func54,ntmps54
 go_wp2
 go_loopw [6,7] (fun x i W=>∃m:Nat,m≤L.length∧i=.int .i64 m∧Hid (G (w.alloc (.cells #[I 0,I 0,I 0,.string E0] 31)) W)∧Hid (W.ownsRow (w.alloc (.cells #[I 0,I 0,I 0,.string E0] 31)).heap.size 31 4 x (zAc (L.take m)).length (flat (zAc (L.take m))))∧Hid ((L.take m).all Qd.ok=true)) (fun _ i _=>L.length-(RowKit.intOf i).toNat)
 case atStart=>exact⟨0,by omega,rfl,G.refl _,World.ownsRow_nil _ _ _ _,rfl⟩
 case round=>
  obtain⟨m,hm,rfl,HG,HO,HA⟩:=hrel
  by_cases hlt:m<L.length
  ·obtain⟨q,hq⟩:∃q,L[m]?=some q:=⟨L[m],List.getElem?_eq_getElem hlt⟩
   obtain⟨b,off,ea⟩:∃b off,a=some ⟨b,off,none⟩:=by
    rcases HV.out with hn|⟨h,hn⟩|⟨b,off,cap2,h,_⟩
    iterate 2
     ·rw[hn] at hlt;exact absurd hlt (Nat.not_lt_zero _)
    ·injection h with h _ _;exact⟨b,off,h⟩
   subst ea
   have HV':Hid (VRow w (.slice (some ⟨b,off,none⟩) L.length cap) L):=by
    rcases HV.out with hn|h
    ·rw[hn] at hlt;exact absurd hlt (Nat.not_lt_zero _)
    ·exact h
   have HC:Hid (∀W,G (w.alloc (.cells #[I 0,I 0,I 0,.string E0] 31)) W→W.cell? ⟨b,off+m*4,none⟩=some (I q.1)∧W.cell? ⟨b,off+m*4+1,none⟩=some (I q.2.1)∧W.cell? ⟨b,off+m*4+2,none⟩=some (I q.2.2.1)∧W.cell? ⟨b,off+m*4+3,none⟩=some (.string q.2.2.2)):=fun W g=>zBa (VRow.G HV'.out (((G.refl w).alloc _).trans g)) hq
   have R1:Hid (q.1=0→zAc (L.take (m+1))=zAc (L.take m)):=fun hk=>by rw[zAF hq,hk];simp
   have R2:Hid (q.1≠0→zAc (L.take (m+1))=zAc (L.take m)++[q]):=fun hk=>by rw[zAF hq];simp[hk]
   have R3:Hid (q.ok=true→(L.take (m+1)).all Qd.ok=true):=zC5 hq HA.out;have R4:Hid (q.ok=false→L.all Qd.ok=false):=zFB hq;have hsz:=HSL.out q (List.mem_of_getElem? hq);have hle:=zCG L m;clear hq;obtain⟨k,a1,b1,s1⟩:=q;simp only[Qd.ok] at R1 R2 R3 R4 HC hsz;have HI:Hid _:=zAm k a1 b1 s1 hsz;clear hsz;obtain⟨h0,h1,h2,h3⟩:=HC.out wr HG.out;cases hok:okV k a1 b1 s1
   ·have R4':Hid _:=R4.out hok
    rw[hok] at HI;clear R1 R2 R3 R4 hok
    go_wp2_with fail
    refine(HI.out _).mono ?_;rintro e w1 ⟨rfl,hb1⟩;have HG1:Hid (G (w.alloc (.cells #[I 0,I 0,I 0,.string E0] 31)) w1):=HG.out.trans hb1;have cB:∀(o:Nat),w1.cell? {block:=w.heap.size,off:=o}=[I 0,I 0,I 0,Value.string E0][o]?:=G.cells HG1.out (fun o=>by simp) (by simp);have fB:∀(o:Nat),w1.frozen? {block:=w.heap.size,off:=o}=false:=G.frozens HG1.out (fun o=>by simp) (by simp);have gE:G w w1:=((G.refl w).alloc _).trans HG1.out
    have hq:c=16∧(qk,qa,qb,qs)=Q0:=by
     rcases HR.out with ⟨h,_⟩|⟨_,h⟩
     ·rw[R4'.out] at h;cases h
     ·exact h
    have HQ:Hid _:=hq;clear hb1 h0 h1 h2 h3 hq
    go_wp2
    exact bodyPost_ret (v:=.tuple #[V0,.int .i64 16]) (by simp[results,results54,go_sem,cB]) rfl ⟨by rw[HQ.out.1,HQ.out.2],by repeat(first|exact gE|refine G.setCell ?_ (Nat.le_refl _) _)⟩
   ·have R3':Hid _:=R3.out hok
    rw[hok] at HI;clear R3 R4 hok
    go_wp2_with fail
    refine(HI.out _).mono ?_;rintro e w1 ⟨rfl,hb1⟩;clear h0 h1 h2 h3;have HG1:Hid (G (w.alloc (.cells #[I 0,I 0,I 0,.string E0] 31)) w1):=HG.out.trans hb1;have HO1:Hid (w1.ownsRow (w.alloc (.cells #[I 0,I 0,I 0,.string E0] 31)).heap.size 31 4 _ (zAc (L.take m)).length (flat (zAc (L.take m)))):=zCe HO.out hb1;obtain⟨h0,h1,h2,h3⟩:=HC.out w1 HG1.out;clear hb1 HG HO
    by_cases hk:k=0
    ·have R1':Hid _:=R1.out hk
     have hk':(k != 0)=false:=by simp[hk]
     clear R1 R2 hk
     go_wp2
     go_roundw
     case rel=>exact⟨m+1,by omega,by go_num,HG1.out,by unfold Hid;rw[R1'.out];exact HO1.out,R3'.out⟩
     case measure=>simp[RowKit.intOf];omega
    ·have R2':Hid _:=R2.out hk
     have hk':(k != 0)=true:=by simpa using hk
     clear R1 R2 hk
     go_wp2_with (at_builtin;refine wpList_append_own _ rfl _ _ 32 rfl (w.alloc (.cells #[I 0,I 0,I 0,.string E0] 31)).heap.size 31 i0 V0 4 40 underlying32 hi hz0 hz1 hz2 rfl (by decide) _ _ _ rfl (World.ownsRow.alloc HO1.out _) ⟨w1.heap.size,0,none⟩ 1 1 [I k,I a1,I b1,.string s1] rfl rfl ?c1 ?c2 ?c3 ?c4 ?c5 ?_)
     case c1=>
      intro j u hj
      match j,hj with
      | 0,hj=>simp at hj;subst hj;simp[Addr.add]
      | 1,hj=>simp at hj;subst hj;simp[Addr.add]
      | 2,hj=>simp at hj;subst hj;simp[Addr.add]
      | 3,hj=>simp at hj;subst hj;simp[Addr.add]
     case c2=>
      intro u hu;simp at hu
      rcases hu with rfl|rfl|rfl|rfl<;>rfl
     case c3=>unfold maxLen;omega
     case c4=>omega
     case c5=>have:=HG1.out.size;simp at this ⊢;omega
     intro x' w3 hown3 hgrow _;have HG3:Hid (G (w.alloc (.cells #[I 0,I 0,I 0,.string E0] 31)) w3):=Below.grown (HG1.out.alloc _) hgrow (by have:=HG1.out.size;simp at this ⊢;omega) (fun g hg=>(World.ownsRow.lt HO1.out g hg).1)
     have HO3:Hid (w3.ownsRow (w.alloc (.cells #[I 0,I 0,I 0,.string E0] 31)).heap.size 31 4 x' (zAc (L.take (m+1))).length (flat (zAc (L.take (m+1))))):=by
      unfold Hid
      have es:(w.alloc (.cells #[I 0,I 0,I 0,.string E0] 31)).heap.size=w.heap.size+1:=by simp
      rw[R2'.out,List.length_append,zBQ,es];exact hown3
     clear hown3 hgrow
     go_wp2
     go_roundw
     case rel=>exact⟨m+1,by omega,by go_num,HG3.out,HO3.out,R3'.out⟩
     case measure=>simp[RowKit.intOf];omega
  ·have e:L.take m=L:=List.take_of_length_le (by omega)
   have hFG:zBq (zAc L)∧FR 5 (zAc L) rv c (qk,qa,qb,qs):=by
    have hall:=HA.out;rw[e] at hall
    rcases HR.out with ⟨_,h⟩|⟨h,_⟩
    ·exact h
    ·rw[hall] at h;cases h
   have HSz:Hid (∀q∈zAc L,q.2.2.2.size≤4611686018427387904):=fun q hq=>HSL.out q (List.mem_filter.1 hq).1;rw[e] at HO;generalize zAc L=D at HO hFG HSz;have HGd:Hid (zBq D):=hFG.1;have HF:Hid (FR 5 D rv c (qk,qa,qb,qs)):=hFG.2;have HVD:Hid _:=zC0 HO.out;obtain⟨a',cap',hx⟩:=zCt HVD.out;subst hx;have HGw:Hid (G w wr):=((G.refl w).alloc _).trans HG.out;have hcB:∀(o:Nat),wr.cell? {block:=w.heap.size,off:=o}=[I 0,I 0,I 0,Value.string E0][o]?:=G.cells HG.out (fun o=>by simp) (by simp);have hfB:∀(o:Nat),wr.frozen? {block:=w.heap.size,off:=o}=false:=G.frozens HG.out (fun o=>by simp) (by simp)
   have hzB:w.heap.size<wr.heap.size:=by have:=HG.out.size;simp at this;omega
   have hDn:D.length≤140737488351232:=HGd.out.2;clear HG HO HA hFG e hm;generalize wr=w0 at HVD HGw hcB hfB hzB⊢
   go_wp2_with fail
   refine(zVV HGd.out HF.out _ _ HVD.out).mono ?_;rintro e w5 ⟨rfl,hb5⟩;have cB:∀(o:Nat),w5.cell? {block:=w.heap.size,off:=o}=[I 0,I 0,I 0,Value.string E0][o]?:=G.cells hb5 hcB hzB;have fB:∀(o:Nat),w5.frozen? {block:=w.heap.size,off:=o}=false:=G.frozens hb5 hfB hzB;have gE:G w w5:=HGw.out.trans hb5;clear hb5 hcB hfB hzB
   go_wp2
   exact bodyPost_ret (v:=.tuple #[V qk qa qb qs,.int .i64 c]) (by simp[results,results54,go_sem,cB]) rfl ⟨rfl,by repeat(first|exact gE|refine G.setCell ?_ (Nat.le_refl _) _)⟩
end
section
open Go.RowKit Go.Lib Go.Shelf
theorem zSE(a:Option Addr)(cap:Nat)(L:List Qd)(w:World)(hV:L=[]∨VRow w (.slice a L.length cap) L)(hs:∀q∈L,q.2.2.2.size≤4611686018427387904)(hn:L.length*40≤140737488351232)(rv:Value)(c:Int)(q:Qd)
  (hR:(L.all Qd.ok=true∧zBq (zAc L)∧FR 3 (zAc L) rv c q)∨(L.all Qd.ok=false∧c=16∧q=Q0)):CG 54 #[.int .i64 3,.slice a L.length cap] w (.tuple #[q.W,.int .i64 c]):=by
 obtain⟨i0,hi,hz0,hz1,hz2⟩:=info_parts zCh;have HV:Hid _:=hV;have HR:Hid _:=hR;have HSL:Hid _:=hs;clear hV hR hs;obtain⟨qk,qa,qb,qs⟩:=q
 go_enter func54,ntmps54
 go_wp2
 go_loopw [6,7] (fun x i W=>∃m:Nat,m≤L.length∧i=.int .i64 m∧Hid (G (w.alloc (.cells #[I 0,I 0,I 0,.string E0] 31)) W)∧Hid (W.ownsRow (w.alloc (.cells #[I 0,I 0,I 0,.string E0] 31)).heap.size 31 4 x (zAc (L.take m)).length (flat (zAc (L.take m))))∧Hid ((L.take m).all Qd.ok=true)) (fun _ i _=>L.length-(RowKit.intOf i).toNat)
 case atStart=>exact⟨0,by omega,rfl,G.refl _,World.ownsRow_nil _ _ _ _,rfl⟩
 case round=>
  obtain⟨m,hm,rfl,HG,HO,HA⟩:=hrel
  by_cases hlt:m<L.length
  ·obtain⟨q,hq⟩:∃q,L[m]?=some q:=⟨L[m],List.getElem?_eq_getElem hlt⟩
   obtain⟨b,off,ea⟩:∃b off,a=some ⟨b,off,none⟩:=by
    rcases HV.out with hn|⟨h,hn⟩|⟨b,off,cap2,h,_⟩
    iterate 2
     ·rw[hn] at hlt;exact absurd hlt (Nat.not_lt_zero _)
    ·injection h with h _ _;exact⟨b,off,h⟩
   subst ea
   have HV':Hid (VRow w (.slice (some ⟨b,off,none⟩) L.length cap) L):=by
    rcases HV.out with hn|h
    ·rw[hn] at hlt;exact absurd hlt (Nat.not_lt_zero _)
    ·exact h
   have HC:Hid (∀W,G (w.alloc (.cells #[I 0,I 0,I 0,.string E0] 31)) W→W.cell? ⟨b,off+m*4,none⟩=some (I q.1)∧W.cell? ⟨b,off+m*4+1,none⟩=some (I q.2.1)∧W.cell? ⟨b,off+m*4+2,none⟩=some (I q.2.2.1)∧W.cell? ⟨b,off+m*4+3,none⟩=some (.string q.2.2.2)):=fun W g=>zBa (VRow.G HV'.out (((G.refl w).alloc _).trans g)) hq
   have R1:Hid (q.1=0→zAc (L.take (m+1))=zAc (L.take m)):=fun hk=>by rw[zAF hq,hk];simp
   have R2:Hid (q.1≠0→zAc (L.take (m+1))=zAc (L.take m)++[q]):=fun hk=>by rw[zAF hq];simp[hk]
   have R3:Hid (q.ok=true→(L.take (m+1)).all Qd.ok=true):=zC5 hq HA.out;have R4:Hid (q.ok=false→L.all Qd.ok=false):=zFB hq;have hsz:=HSL.out q (List.mem_of_getElem? hq);have hle:=zCG L m;clear hq;obtain⟨k,a1,b1,s1⟩:=q;simp only[Qd.ok] at R1 R2 R3 R4 HC hsz;have HI:Hid _:=zAm k a1 b1 s1 hsz;clear hsz;obtain⟨h0,h1,h2,h3⟩:=HC.out wr HG.out;cases hok:okV k a1 b1 s1
   ·have R4':Hid _:=R4.out hok
    rw[hok] at HI;clear R1 R2 R3 R4 hok
    go_wp2_with fail
    refine(HI.out _).mono ?_;rintro e w1 ⟨rfl,hb1⟩;have HG1:Hid (G (w.alloc (.cells #[I 0,I 0,I 0,.string E0] 31)) w1):=HG.out.trans hb1;have cB:∀(o:Nat),w1.cell? {block:=w.heap.size,off:=o}=[I 0,I 0,I 0,Value.string E0][o]?:=G.cells HG1.out (fun o=>by simp) (by simp);have fB:∀(o:Nat),w1.frozen? {block:=w.heap.size,off:=o}=false:=G.frozens HG1.out (fun o=>by simp) (by simp);have gE:G w w1:=((G.refl w).alloc _).trans HG1.out
    have hq:c=16∧(qk,qa,qb,qs)=Q0:=by
     rcases HR.out with ⟨h,_⟩|⟨_,h⟩
     ·rw[R4'.out] at h;cases h
     ·exact h
    have HQ:Hid _:=hq;clear hb1 h0 h1 h2 h3 hq
    go_wp2
    exact bodyPost_ret (v:=.tuple #[V0,.int .i64 16]) (by simp[results,results54,go_sem,cB]) rfl ⟨by rw[HQ.out.1,HQ.out.2],by repeat(first|exact gE|refine G.setCell ?_ (Nat.le_refl _) _)⟩
   ·have R3':Hid _:=R3.out hok
    rw[hok] at HI;clear R3 R4 hok
    go_wp2_with fail
    refine(HI.out _).mono ?_;rintro e w1 ⟨rfl,hb1⟩;clear h0 h1 h2 h3;have HG1:Hid (G (w.alloc (.cells #[I 0,I 0,I 0,.string E0] 31)) w1):=HG.out.trans hb1;have HO1:Hid (w1.ownsRow (w.alloc (.cells #[I 0,I 0,I 0,.string E0] 31)).heap.size 31 4 _ (zAc (L.take m)).length (flat (zAc (L.take m)))):=zCe HO.out hb1;obtain⟨h0,h1,h2,h3⟩:=HC.out w1 HG1.out;clear hb1 HG HO
    by_cases hk:k=0
    ·have R1':Hid _:=R1.out hk
     have hk':(k != 0)=false:=by simp[hk]
     clear R1 R2 hk
     go_wp2
     go_roundw
     case rel=>exact⟨m+1,by omega,by go_num,HG1.out,by unfold Hid;rw[R1'.out];exact HO1.out,R3'.out⟩
     case measure=>simp[RowKit.intOf];omega
    ·have R2':Hid _:=R2.out hk
     have hk':(k != 0)=true:=by simpa using hk
     clear R1 R2 hk
     go_wp2_with (at_builtin;refine wpList_append_own _ rfl _ _ 32 rfl (w.alloc (.cells #[I 0,I 0,I 0,.string E0] 31)).heap.size 31 i0 V0 4 40 underlying32 hi hz0 hz1 hz2 rfl (by decide) _ _ _ rfl (World.ownsRow.alloc HO1.out _) ⟨w1.heap.size,0,none⟩ 1 1 [I k,I a1,I b1,.string s1] rfl rfl ?c1 ?c2 ?c3 ?c4 ?c5 ?_)
     case c1=>
      intro j u hj
      match j,hj with
      | 0,hj=>simp at hj;subst hj;simp[Addr.add]
      | 1,hj=>simp at hj;subst hj;simp[Addr.add]
      | 2,hj=>simp at hj;subst hj;simp[Addr.add]
      | 3,hj=>simp at hj;subst hj;simp[Addr.add]
     case c2=>
      intro u hu;simp at hu
      rcases hu with rfl|rfl|rfl|rfl<;>rfl
     case c3=>unfold maxLen;omega
     case c4=>omega
     case c5=>have:=HG1.out.size;simp at this ⊢;omega
     intro x' w3 hown3 hgrow _;have HG3:Hid (G (w.alloc (.cells #[I 0,I 0,I 0,.string E0] 31)) w3):=Below.grown (HG1.out.alloc _) hgrow (by have:=HG1.out.size;simp at this ⊢;omega) (fun g hg=>(World.ownsRow.lt HO1.out g hg).1)
     have HO3:Hid (w3.ownsRow (w.alloc (.cells #[I 0,I 0,I 0,.string E0] 31)).heap.size 31 4 x' (zAc (L.take (m+1))).length (flat (zAc (L.take (m+1))))):=by
      unfold Hid
      have es:(w.alloc (.cells #[I 0,I 0,I 0,.string E0] 31)).heap.size=w.heap.size+1:=by simp
      rw[R2'.out,List.length_append,zBQ,es];exact hown3
     clear hown3 hgrow
     go_wp2
     go_roundw
     case rel=>exact⟨m+1,by omega,by go_num,HG3.out,HO3.out,R3'.out⟩
     case measure=>simp[RowKit.intOf];omega
  ·have e:L.take m=L:=List.take_of_length_le (by omega)
   have hFG:zBq (zAc L)∧FR 3 (zAc L) rv c (qk,qa,qb,qs):=by
    have hall:=HA.out;rw[e] at hall
    rcases HR.out with ⟨_,h⟩|⟨h,_⟩
    ·exact h
    ·rw[hall] at h;cases h
   have HSz:Hid (∀q∈zAc L,q.2.2.2.size≤4611686018427387904):=fun q hq=>HSL.out q (List.mem_filter.1 hq).1;rw[e] at HO;generalize zAc L=D at HO hFG HSz;have HGd:Hid (zBq D):=hFG.1;have HF:Hid (FR 3 D rv c (qk,qa,qb,qs)):=hFG.2;have HVD:Hid _:=zC0 HO.out;obtain⟨a',cap',hx⟩:=zCt HVD.out;subst hx;have HGw:Hid (G w wr):=((G.refl w).alloc _).trans HG.out;have hcB:∀(o:Nat),wr.cell? {block:=w.heap.size,off:=o}=[I 0,I 0,I 0,Value.string E0][o]?:=G.cells HG.out (fun o=>by simp) (by simp);have hfB:∀(o:Nat),wr.frozen? {block:=w.heap.size,off:=o}=false:=G.frozens HG.out (fun o=>by simp) (by simp)
   have hzB:w.heap.size<wr.heap.size:=by have:=HG.out.size;simp at this;omega
   have hDn:D.length≤140737488351232:=HGd.out.2;clear HG HO HA hFG e hm;generalize wr=w0 at HVD HGw hcB hfB hzB⊢;obtain⟨rfl,hq⟩:=fr3 HF.out;have HQ:Hid _:=hq;clear hq HF
   have hT:SBox w0 (bx D (-1) 0) w.heap.size w0.heap.size (w0.alloc (.cells #[I 0,I 0,I 0,.string E0] 31)):=
    ⟨G.cells ((G.refl w0).alloc _) hcB hzB,fun o=>by simp[bx],G.frozens ((G.refl w0).alloc _) hfB hzB,fun o=>by simp,(G.refl w0).alloc _,by simp;omega,by simp⟩
   have HT0:Hid _:=hT;clear hT
   go_wp2
   generalize hB8:w0.heap.size=B8 at HT0 hzB⊢
   go_loopw [9] (fun i W=>∃m:Nat,m≤D.length∧i=.int .i64 m∧Hid (SBox w0 (bx D (-1) m) w.heap.size B8 W)) (fun i _=>D.length-(RowKit.intOf i).toNat)
   case atStart=>exact⟨0,by omega,rfl,HT0.out⟩
   case round=>
    obtain⟨m,hm,rfl,HS⟩:=hrel;clear HT0 hcB hfB
    by_cases hlt2:m<D.length
    ·obtain⟨q,hq⟩:∃q,D[m]?=some q:=⟨D[m],List.getElem?_eq_getElem hlt2⟩
     have hVW:=VRow.G HVD.out HS.out.2.2.2.2.1
     obtain⟨b,off,ea⟩:∃b off,a'=some ⟨b,off,none⟩:=by
      rcases HVD.out with ⟨h,hn⟩|⟨b,off,cap2,h,_⟩
      ·rw[hn] at hlt2;exact absurd hlt2 (Nat.not_lt_zero _)
      ·injection h with h _ _;exact⟨b,off,h⟩
     subst ea;have hr0:=zUW HS.out hVW hq;have hok:=(HGd.out.1 q (List.mem_of_getElem? hq)).1;have hsz:=HSz.out q (List.mem_of_getElem? hq)
     have T2:Hid _:=zQ7 q (bx D (-1) m) hok (by
      rcases zJF (-1) hm with h|h
      ·rw[h];exact zW2
      ·exact(HGd.out.1 _ h).1) hsz (by
      rcases zJF (-1) hm with h|h
      ·rw[h];exact Nat.zero_le _
      ·exact HSz.out _ h)
     have htri:=zJA q (bx D (-1) m)
     have R0:Hid (m=0→bx D (-1) (m+1)=q):=fun e=>by subst e;exact zJG _ hq
     have R1:Hid (m≠0→bx D (-1) (m+1)=if cmpQ q (bx D (-1) m)=(-1)then q else bx D (-1) m):=fun e=>zNV _ e hq;clear hq HS hok hsz hVW;generalize cmpQ q (bx D (-1) m)=cc at T2 htri R1;generalize htq:bx D (-1) m=tq at hr0 T2;have HTB:Hid (bx D (-1) m=tq):=htq;clear htq;obtain⟨tk,ta,tb,ts⟩:=tq;obtain⟨qk,qa,qb,qs⟩:=q;unfold RT at hr0;simp only at hr0
     have hlt3:(m:Int)<(D.length:Int):=by omega
     go_wp2
     go_region_held3 (fun W=>(∀(o:Nat),W.cell? {block:=B8,off:=o}=[I tk,I ta,I tb,Value.string ts][o]?)∧W.cell? {block:=b,off:=off+m*4}=some (I qk)∧W.cell? {block:=b,off:=off+m*4+1}=some (I qa)∧W.cell? {block:=b,off:=off+m*4+2}=some (I qb)∧W.cell? {block:=b,off:=off+m*4+3}=some (.string qs)∧
       (∀(o:Nat),W.cell? {block:=w.heap.size,off:=o}=[I 0,I 0,I 0,Value.string E0][o]?)∧(∀(o:Nat),W.frozen? {block:=w.heap.size,off:=o}=false)∧(∀(o:Nat),W.frozen? {block:=B8,off:=o}=false)∧G w0 W∧w.heap.size<W.heap.size∧B8<W.heap.size)
      ((first|assumption|(refine RT.keep ?_ hr0;repeat(first|exact G.refl _|exact(G.drew (G.refl _)).trans hb5|refine G.drew ?_))))
      (first|(go_at_call 19;refine(T2.out _).mono ?_;rintro e w5 ⟨rfl,hb5⟩)|fail)
     rename_i hH
     clear hb5 hr0 T2;obtain⟨c8,k0,k1,k2,k3,c4,f4,f8,hG6,z4,z8⟩:=hH;have HTwo:Hid (Two w0 w.heap.size B8 (fun o=>[I 0,I 0,I 0,Value.string E0][o]?) (fun o=>[I tk,I ta,I tb,Value.string ts][o]?) w5):=⟨c4,c8,f4,f8,hG6,z4,z8⟩
     by_cases m0:m=0
     ·have RR:Hid _:=R0.out m0
      have hm0:((m:Int)==0)=true:=by simp[m0]
      clear R1 R0 htri m0
      go_wp2
      go_roundw
      case rel=>
       refine⟨m+1,by omega,by go_num,?_⟩;have:=zAI (zBr (I qk) (I qa) (I qb) (.string qs) (by omega) (by omega) (zAI HTwo.out));unfold Hid SBox;rw[RR.out];exact this
      case measure=>simp[RowKit.intOf];omega
     ·have hm0:((m:Int)==0)=false:=beq_false_of_ne (by omega)
      rcases htri with rfl|rfl|rfl
      ·have RR:Hid (bx D (-1) (m+1)=(qk,qa,qb,qs)):=by
        have:=R1.out m0;rw[if_pos rfl] at this;exact this
       clear R1 R0
       go_wp2
       go_roundw
       case rel=>
        refine⟨m+1,by omega,by go_num,?_⟩;have:=zAI (zBr (I qk) (I qa) (I qb) (.string qs) (by omega) (by omega) (zAI HTwo.out));unfold Hid SBox;rw[RR.out];exact this
       case measure=>simp[RowKit.intOf];omega
      iterate 2
       ·have RR:Hid (bx D (-1) (m+1)=bx D (-1) m):=by
         have:=R1.out m0;rw[if_neg (by decide)] at this;exact this
        clear R1 R0
        go_wp2
        go_roundw
        case rel=>
         refine⟨m+1,by omega,by go_num,?_⟩;unfold Hid SBox;rw[RR.out,HTB.out];exact HTwo.out
        case measure=>simp[RowKit.intOf];omega
    ·have em:m=D.length:=by omega
     obtain⟨c4,c8,f4,f8,hG6,z4,z8⟩:=HS.out;clear HS
     have HE:Hid ((qk,qa,qb,qs)=bx D (-1) m):=by unfold Hid;rw[em];exact HQ.out
     generalize htq:bx D (-1) m=tq at c8 HE;clear htq;obtain⟨tk,ta,tb,ts⟩:=tq;simp only at c8;have gE:G w wr:=HGw.out.trans hG6
     go_wp2
     exact bodyPost_ret (v:=.tuple #[V tk ta tb ts,.int .i64 0]) (by simp[results,results54,go_sem,c4]) rfl ⟨by cases HE.out;rfl,by repeat(first|exact gE|refine G.setCell ?_ (Nat.le_refl _) _)⟩
theorem zSD(a:Option Addr)(cap:Nat)(L:List Qd)(w:World)(hV:L=[]∨VRow w (.slice a L.length cap) L)(hs:∀q∈L,q.2.2.2.size≤4611686018427387904)(hn:L.length*40≤140737488351232)(rv:Value)(c:Int)(q:Qd)
  (hR:(L.all Qd.ok=true∧zBq (zAc L)∧FR 4 (zAc L) rv c q)∨(L.all Qd.ok=false∧c=16∧q=Q0)):CG 54 #[.int .i64 4,.slice a L.length cap] w (.tuple #[q.W,.int .i64 c]):=by
 obtain⟨i0,hi,hz0,hz1,hz2⟩:=info_parts zCh;have HV:Hid _:=hV;have HR:Hid _:=hR;have HSL:Hid _:=hs;clear hV hR hs;obtain⟨qk,qa,qb,qs⟩:=q
 go_enter func54,ntmps54
 go_wp2
 go_loopw [6,7] (fun x i W=>∃m:Nat,m≤L.length∧i=.int .i64 m∧Hid (G (w.alloc (.cells #[I 0,I 0,I 0,.string E0] 31)) W)∧Hid (W.ownsRow (w.alloc (.cells #[I 0,I 0,I 0,.string E0] 31)).heap.size 31 4 x (zAc (L.take m)).length (flat (zAc (L.take m))))∧Hid ((L.take m).all Qd.ok=true)) (fun _ i _=>L.length-(RowKit.intOf i).toNat)
 case atStart=>exact⟨0,by omega,rfl,G.refl _,World.ownsRow_nil _ _ _ _,rfl⟩
 case round=>
  obtain⟨m,hm,rfl,HG,HO,HA⟩:=hrel
  by_cases hlt:m<L.length
  ·obtain⟨q,hq⟩:∃q,L[m]?=some q:=⟨L[m],List.getElem?_eq_getElem hlt⟩
   obtain⟨b,off,ea⟩:∃b off,a=some ⟨b,off,none⟩:=by
    rcases HV.out with hn|⟨h,hn⟩|⟨b,off,cap2,h,_⟩
    iterate 2
     ·rw[hn] at hlt;exact absurd hlt (Nat.not_lt_zero _)
    ·injection h with h _ _;exact⟨b,off,h⟩
   subst ea
   have HV':Hid (VRow w (.slice (some ⟨b,off,none⟩) L.length cap) L):=by
    rcases HV.out with hn|h
    ·rw[hn] at hlt;exact absurd hlt (Nat.not_lt_zero _)
    ·exact h
   have HC:Hid (∀W,G (w.alloc (.cells #[I 0,I 0,I 0,.string E0] 31)) W→W.cell? ⟨b,off+m*4,none⟩=some (I q.1)∧W.cell? ⟨b,off+m*4+1,none⟩=some (I q.2.1)∧W.cell? ⟨b,off+m*4+2,none⟩=some (I q.2.2.1)∧W.cell? ⟨b,off+m*4+3,none⟩=some (.string q.2.2.2)):=fun W g=>zBa (VRow.G HV'.out (((G.refl w).alloc _).trans g)) hq
   have R1:Hid (q.1=0→zAc (L.take (m+1))=zAc (L.take m)):=fun hk=>by rw[zAF hq,hk];simp
   have R2:Hid (q.1≠0→zAc (L.take (m+1))=zAc (L.take m)++[q]):=fun hk=>by rw[zAF hq];simp[hk]
   have R3:Hid (q.ok=true→(L.take (m+1)).all Qd.ok=true):=zC5 hq HA.out;have R4:Hid (q.ok=false→L.all Qd.ok=false):=zFB hq;have hsz:=HSL.out q (List.mem_of_getElem? hq);have hle:=zCG L m;clear hq;obtain⟨k,a1,b1,s1⟩:=q;simp only[Qd.ok] at R1 R2 R3 R4 HC hsz;have HI:Hid _:=zAm k a1 b1 s1 hsz;clear hsz;obtain⟨h0,h1,h2,h3⟩:=HC.out wr HG.out;cases hok:okV k a1 b1 s1
   ·have R4':Hid _:=R4.out hok
    rw[hok] at HI;clear R1 R2 R3 R4 hok
    go_wp2_with fail
    refine(HI.out _).mono ?_;rintro e w1 ⟨rfl,hb1⟩;have HG1:Hid (G (w.alloc (.cells #[I 0,I 0,I 0,.string E0] 31)) w1):=HG.out.trans hb1;have cB:∀(o:Nat),w1.cell? {block:=w.heap.size,off:=o}=[I 0,I 0,I 0,Value.string E0][o]?:=G.cells HG1.out (fun o=>by simp) (by simp);have fB:∀(o:Nat),w1.frozen? {block:=w.heap.size,off:=o}=false:=G.frozens HG1.out (fun o=>by simp) (by simp);have gE:G w w1:=((G.refl w).alloc _).trans HG1.out
    have hq:c=16∧(qk,qa,qb,qs)=Q0:=by
     rcases HR.out with ⟨h,_⟩|⟨_,h⟩
     ·rw[R4'.out] at h;cases h
     ·exact h
    have HQ:Hid _:=hq;clear hb1 h0 h1 h2 h3 hq
    go_wp2
    exact bodyPost_ret (v:=.tuple #[V0,.int .i64 16]) (by simp[results,results54,go_sem,cB]) rfl ⟨by rw[HQ.out.1,HQ.out.2],by repeat(first|exact gE|refine G.setCell ?_ (Nat.le_refl _) _)⟩
   ·have R3':Hid _:=R3.out hok
    rw[hok] at HI;clear R3 R4 hok
    go_wp2_with fail
    refine(HI.out _).mono ?_;rintro e w1 ⟨rfl,hb1⟩;clear h0 h1 h2 h3;have HG1:Hid (G (w.alloc (.cells #[I 0,I 0,I 0,.string E0] 31)) w1):=HG.out.trans hb1;have HO1:Hid (w1.ownsRow (w.alloc (.cells #[I 0,I 0,I 0,.string E0] 31)).heap.size 31 4 _ (zAc (L.take m)).length (flat (zAc (L.take m)))):=zCe HO.out hb1;obtain⟨h0,h1,h2,h3⟩:=HC.out w1 HG1.out;clear hb1 HG HO
    by_cases hk:k=0
    ·have R1':Hid _:=R1.out hk
     have hk':(k != 0)=false:=by simp[hk]
     clear R1 R2 hk
     go_wp2
     go_roundw
     case rel=>exact⟨m+1,by omega,by go_num,HG1.out,by unfold Hid;rw[R1'.out];exact HO1.out,R3'.out⟩
     case measure=>simp[RowKit.intOf];omega
    ·have R2':Hid _:=R2.out hk
     have hk':(k != 0)=true:=by simpa using hk
     clear R1 R2 hk
     go_wp2_with (at_builtin;refine wpList_append_own _ rfl _ _ 32 rfl (w.alloc (.cells #[I 0,I 0,I 0,.string E0] 31)).heap.size 31 i0 V0 4 40 underlying32 hi hz0 hz1 hz2 rfl (by decide) _ _ _ rfl (World.ownsRow.alloc HO1.out _) ⟨w1.heap.size,0,none⟩ 1 1 [I k,I a1,I b1,.string s1] rfl rfl ?c1 ?c2 ?c3 ?c4 ?c5 ?_)
     case c1=>
      intro j u hj
      match j,hj with
      | 0,hj=>simp at hj;subst hj;simp[Addr.add]
      | 1,hj=>simp at hj;subst hj;simp[Addr.add]
      | 2,hj=>simp at hj;subst hj;simp[Addr.add]
      | 3,hj=>simp at hj;subst hj;simp[Addr.add]
     case c2=>
      intro u hu;simp at hu
      rcases hu with rfl|rfl|rfl|rfl<;>rfl
     case c3=>unfold maxLen;omega
     case c4=>omega
     case c5=>have:=HG1.out.size;simp at this ⊢;omega
     intro x' w3 hown3 hgrow _;have HG3:Hid (G (w.alloc (.cells #[I 0,I 0,I 0,.string E0] 31)) w3):=Below.grown (HG1.out.alloc _) hgrow (by have:=HG1.out.size;simp at this ⊢;omega) (fun g hg=>(World.ownsRow.lt HO1.out g hg).1)
     have HO3:Hid (w3.ownsRow (w.alloc (.cells #[I 0,I 0,I 0,.string E0] 31)).heap.size 31 4 x' (zAc (L.take (m+1))).length (flat (zAc (L.take (m+1))))):=by
      unfold Hid
      have es:(w.alloc (.cells #[I 0,I 0,I 0,.string E0] 31)).heap.size=w.heap.size+1:=by simp
      rw[R2'.out,List.length_append,zBQ,es];exact hown3
     clear hown3 hgrow
     go_wp2
     go_roundw
     case rel=>exact⟨m+1,by omega,by go_num,HG3.out,HO3.out,R3'.out⟩
     case measure=>simp[RowKit.intOf];omega
  ·have e:L.take m=L:=List.take_of_length_le (by omega)
   have hFG:zBq (zAc L)∧FR 4 (zAc L) rv c (qk,qa,qb,qs):=by
    have hall:=HA.out;rw[e] at hall
    rcases HR.out with ⟨_,h⟩|⟨h,_⟩
    ·exact h
    ·rw[hall] at h;cases h
   have HSz:Hid (∀q∈zAc L,q.2.2.2.size≤4611686018427387904):=fun q hq=>HSL.out q (List.mem_filter.1 hq).1;rw[e] at HO;generalize zAc L=D at HO hFG HSz;have HGd:Hid (zBq D):=hFG.1;have HF:Hid (FR 4 D rv c (qk,qa,qb,qs)):=hFG.2;have HVD:Hid _:=zC0 HO.out;obtain⟨a',cap',hx⟩:=zCt HVD.out;subst hx;have HGw:Hid (G w wr):=((G.refl w).alloc _).trans HG.out;have hcB:∀(o:Nat),wr.cell? {block:=w.heap.size,off:=o}=[I 0,I 0,I 0,Value.string E0][o]?:=G.cells HG.out (fun o=>by simp) (by simp);have hfB:∀(o:Nat),wr.frozen? {block:=w.heap.size,off:=o}=false:=G.frozens HG.out (fun o=>by simp) (by simp)
   have hzB:w.heap.size<wr.heap.size:=by have:=HG.out.size;simp at this;omega
   have hDn:D.length≤140737488351232:=HGd.out.2;clear HG HO HA hFG e hm;generalize wr=w0 at HVD HGw hcB hfB hzB⊢;obtain⟨rfl,hq⟩:=fr4 HF.out;have HQ:Hid _:=hq;clear hq HF
   have hT:SBox w0 (bx D 1 0) w.heap.size w0.heap.size (w0.alloc (.cells #[I 0,I 0,I 0,.string E0] 31)):=
    ⟨G.cells ((G.refl w0).alloc _) hcB hzB,fun o=>by simp[bx],G.frozens ((G.refl w0).alloc _) hfB hzB,fun o=>by simp,(G.refl w0).alloc _,by simp;omega,by simp⟩
   have HT0:Hid _:=hT;clear hT
   go_wp2
   generalize hB8:w0.heap.size=B8 at HT0 hzB⊢
   go_loopw [9] (fun i W=>∃m:Nat,m≤D.length∧i=.int .i64 m∧Hid (SBox w0 (bx D 1 m) w.heap.size B8 W)) (fun i _=>D.length-(RowKit.intOf i).toNat)
   case atStart=>exact⟨0,by omega,rfl,HT0.out⟩
   case round=>
    obtain⟨m,hm,rfl,HS⟩:=hrel;clear HT0 hcB hfB
    by_cases hlt2:m<D.length
    ·obtain⟨q,hq⟩:∃q,D[m]?=some q:=⟨D[m],List.getElem?_eq_getElem hlt2⟩
     have hVW:=VRow.G HVD.out HS.out.2.2.2.2.1
     obtain⟨b,off,ea⟩:∃b off,a'=some ⟨b,off,none⟩:=by
      rcases HVD.out with ⟨h,hn⟩|⟨b,off,cap2,h,_⟩
      ·rw[hn] at hlt2;exact absurd hlt2 (Nat.not_lt_zero _)
      ·injection h with h _ _;exact⟨b,off,h⟩
     subst ea;have hr0:=zUW HS.out hVW hq;have hok:=(HGd.out.1 q (List.mem_of_getElem? hq)).1;have hsz:=HSz.out q (List.mem_of_getElem? hq)
     have T2:Hid _:=zQ7 q (bx D 1 m) hok (by
      rcases zJF 1 hm with h|h
      ·rw[h];exact zW2
      ·exact(HGd.out.1 _ h).1) hsz (by
      rcases zJF 1 hm with h|h
      ·rw[h];exact Nat.zero_le _
      ·exact HSz.out _ h)
     have htri:=zJA q (bx D 1 m)
     have R0:Hid (m=0→bx D 1 (m+1)=q):=fun e=>by subst e;exact zJG _ hq
     have R1:Hid (m≠0→bx D 1 (m+1)=if cmpQ q (bx D 1 m)=1 then q else bx D 1 m):=fun e=>zNV _ e hq;clear hq HS hok hsz hVW;generalize cmpQ q (bx D 1 m)=cc at T2 htri R1;generalize htq:bx D 1 m=tq at hr0 T2;have HTB:Hid (bx D 1 m=tq):=htq;clear htq;obtain⟨tk,ta,tb,ts⟩:=tq;obtain⟨qk,qa,qb,qs⟩:=q;unfold RT at hr0;simp only at hr0
     have hlt3:(m:Int)<(D.length:Int):=by omega
     go_wp2
     go_region_held3 (fun W=>(∀(o:Nat),W.cell? {block:=B8,off:=o}=[I tk,I ta,I tb,Value.string ts][o]?)∧W.cell? {block:=b,off:=off+m*4}=some (I qk)∧W.cell? {block:=b,off:=off+m*4+1}=some (I qa)∧W.cell? {block:=b,off:=off+m*4+2}=some (I qb)∧W.cell? {block:=b,off:=off+m*4+3}=some (.string qs)∧
       (∀(o:Nat),W.cell? {block:=w.heap.size,off:=o}=[I 0,I 0,I 0,Value.string E0][o]?)∧(∀(o:Nat),W.frozen? {block:=w.heap.size,off:=o}=false)∧(∀(o:Nat),W.frozen? {block:=B8,off:=o}=false)∧G w0 W∧w.heap.size<W.heap.size∧B8<W.heap.size)
      ((first|assumption|(refine RT.keep ?_ hr0;repeat(first|exact G.refl _|exact(G.drew (G.refl _)).trans hb5|refine G.drew ?_))))
      (first|(go_at_call 19;refine(T2.out _).mono ?_;rintro e w5 ⟨rfl,hb5⟩)|fail)
     rename_i hH
     clear hb5 hr0 T2;obtain⟨c8,k0,k1,k2,k3,c4,f4,f8,hG6,z4,z8⟩:=hH;have HTwo:Hid (Two w0 w.heap.size B8 (fun o=>[I 0,I 0,I 0,Value.string E0][o]?) (fun o=>[I tk,I ta,I tb,Value.string ts][o]?) w5):=⟨c4,c8,f4,f8,hG6,z4,z8⟩
     by_cases m0:m=0
     ·have RR:Hid _:=R0.out m0
      have hm0:((m:Int)==0)=true:=by simp[m0]
      clear R1 R0 htri m0
      go_wp2
      go_roundw
      case rel=>
       refine⟨m+1,by omega,by go_num,?_⟩;have:=zAI (zBr (I qk) (I qa) (I qb) (.string qs) (by omega) (by omega) (zAI HTwo.out));unfold Hid SBox;rw[RR.out];exact this
      case measure=>simp[RowKit.intOf];omega
     ·have hm0:((m:Int)==0)=false:=beq_false_of_ne (by omega)
      rcases htri with rfl|rfl|rfl
      iterate 2
       ·have RR:Hid (bx D 1 (m+1)=bx D 1 m):=by
         have:=R1.out m0;rw[if_neg (by decide)] at this;exact this
        clear R1 R0
        go_wp2
        go_roundw
        case rel=>
         refine⟨m+1,by omega,by go_num,?_⟩;unfold Hid SBox;rw[RR.out,HTB.out];exact HTwo.out
        case measure=>simp[RowKit.intOf];omega
      ·have RR:Hid (bx D 1 (m+1)=(qk,qa,qb,qs)):=by
        have:=R1.out m0;rw[if_pos rfl] at this;exact this
       clear R1 R0
       go_wp2
       go_roundw
       case rel=>
        refine⟨m+1,by omega,by go_num,?_⟩;have:=zAI (zBr (I qk) (I qa) (I qb) (.string qs) (by omega) (by omega) (zAI HTwo.out));unfold Hid SBox;rw[RR.out];exact this
       case measure=>simp[RowKit.intOf];omega
    ·have em:m=D.length:=by omega
     obtain⟨c4,c8,f4,f8,hG6,z4,z8⟩:=HS.out;clear HS
     have HE:Hid ((qk,qa,qb,qs)=bx D 1 m):=by unfold Hid;rw[em];exact HQ.out
     generalize htq:bx D 1 m=tq at c8 HE;clear htq;obtain⟨tk,ta,tb,ts⟩:=tq;simp only at c8;have gE:G w wr:=HGw.out.trans hG6
     go_wp2
     exact bodyPost_ret (v:=.tuple #[V tk ta tb ts,.int .i64 0]) (by simp[results,results54,go_sem,c4]) rfl ⟨by cases HE.out;rfl,by repeat(first|exact gE|refine G.setCell ?_ (Nat.le_refl _) _)⟩
end
section
open Go.RowKit Go.Lib Go.Shelf
def Rdy(w:World):Prop:=Tabs w∧Rks w
theorem Rdy.G{w w':World}(h:Rdy w)(g:G w w'):Rdy w':=⟨h.1.G g,h.2.G g⟩
theorem zJf{w W W':World}{b:Nat}{f:Nat→Option Value}(hb:G W W')(h:(∀o,W.cell? ⟨b,o,none⟩=f o)∧G w W∧b<W.heap.size):(∀o,W'.cell? ⟨b,o,none⟩=f o)∧G w W'∧b<W'.heap.size:=zAO h.1 h.2.1 h.2.2 hb
theorem zNj{w W:World}{b:Nat}{f:Nat→Option Value}(h:(∀o,W.cell? ⟨b,o,none⟩=f o)∧G w W∧b<W.heap.size):(∀o,W.drew.cell? ⟨b,o,none⟩=f o)∧G w W.drew∧b<W.drew.heap.size:=zJf (G.refl _).drew h
theorem zS7(e:Ent)(hk:e.kind=4)(hs:e.s.size≤4611686018427387904)(hs':e.s'.size≤4611686018427387904)(w:World)(hT:Rdy w):CG 7 #[e.V] w (.bool true):=by
 obtain⟨kind,op,k,a,b,s,k',a',b',s',vs,st,tt,bb,n,x,y,o1,o2⟩:=e;simp only at hk hs hs';subst hk;obtain⟨m,a1,b1,s1,h1⟩:=zVM k a b s;obtain⟨m',a1',b1',s1',h2⟩:=zVM k' a' b' s'
 have HA:Hid (∀W,G w W→CG 18 #[V k a b s,V k' a' b' s'] W (.int .i64 (cmpR m m' a1 b1 a1' b1' s1 s1'))):=fun W g=>by
  rw[←zJz h1.lt h2.lt h1.ok h2.ok];exact zIn k a b k' a' b' s s' m m' a1 b1 a1' b1' s1 s1' h1 h2 W (hT.G g).1 (hT.G g).2
 have HB:Hid (∀W,CG 19 #[V k a b s,V k' a' b' s'] W (.int .i64 (cmpR m m' a1 b1 a1' b1' s1 s1'))):=zO3 k a b k' a' b' s s' hs hs' m m' a1 b1 a1' b1' s1 s1' h1 h2;generalize cmpR m m' a1 b1 a1' b1' s1 s1'=r at HA HB;clear h1 h2 hT hs hs'
 have hc0:∀o,(w.alloc (.cells #[I 4,I op,I k,I a,I b,.string s,I k',I a',I b',.string s',vs,.string st,.string tt,bb,I n,I x,I y,I o1,I o2] 35)).cell? {block:=w.heap.size,off:=o}=[I 4,I op,I k,I a,I b,.string s,I k',I a',I b',.string s',vs,.string st,.string tt,bb,I n,I x,I y,I o1,I o2][o]?:=fun o=>by simp
 have hg0:G w (w.alloc (.cells #[I 4,I op,I k,I a,I b,.string s,I k',I a',I b',.string s',vs,.string st,.string tt,bb,I n,I x,I y,I o1,I o2] 35)):=(G.refl w).alloc _
 have hz0:w.heap.size<(w.alloc (.cells #[I 4,I op,I k,I a,I b,.string s,I k',I a',I b',.string s',vs,.string st,.string tt,bb,I n,I x,I y,I o1,I o2] 35)).heap.size:=by simp
 go_enter func7,ntmps7
 go_wp2
 generalize w.alloc (.cells #[I 4,I op,I k,I a,I b,.string s,I k',I a',I b',.string s',vs,.string st,.string tt,bb,I n,I x,I y,I o1,I o2] 35)=w1 at hc0 hg0 hz0⊢;have hS0:(∀(o:Nat),w1.cell? {block:=w.heap.size,off:=o}=[I 4,I op,I k,I a,I b,.string s,I k',I a',I b',.string s',vs,.string st,.string tt,bb,I n,I x,I y,I o1,I o2][o]?)∧G w w1∧w.heap.size<w1.heap.size:=⟨hc0,hg0,hz0⟩;clear hc0 hg0 hz0
 go_region_held3 (fun W=>(∀(o:Nat),W.cell? {block:=w.heap.size,off:=o}=[I 4,I op,I k,I a,I b,.string s,I k',I a',I b',.string s',vs,.string st,.string tt,bb,I n,I x,I y,I o1,I o2][o]?)∧G w W∧w.heap.size<W.heap.size)
  ((first|assumption|exact zNj (by assumption)|exact zJf hb5 (by assumption)|exact zJf hb5 (zNj (by assumption))|exact zNj (zJf hb5 (by assumption))))
  (first|(go_at_call 18;refine(HA.out _ (by first|assumption|exact G.drew (by assumption)|exact And.left (And.right (by assumption))|exact G.drew (And.left (And.right (by assumption))))).mono ?_;rintro e w5 ⟨rfl,hb5⟩)|(go_at_call 19;refine(HB.out _).mono ?_;rintro e w5 ⟨rfl,hb5⟩)|fail)
 rename_i hH
 go_wp2
 go_ret;exact⟨rfl,hH.2.1⟩
theorem zGc(W:World)(hT:Rdy W)(e:Ent)(h:zDn W e)(h1:4≤e.kind)(h2:e.kind≤4)(w':World)(g:G W w'):Calls prog 7 #[e.V] w' fun r w''=>r=.returned (.bool true)∧G w' w'':=
 zS7 e (by omega) (by have:=h.s;unfold reachBytes at this;omega) (by have:=h.s';unfold reachBytes at this;omega) w' (hT.G g)
end
end Go.Proofs.YthmdjhfbhbheeaaGreatDoor
