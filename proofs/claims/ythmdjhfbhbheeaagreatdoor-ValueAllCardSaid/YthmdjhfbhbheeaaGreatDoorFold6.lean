import Derived.Test.YthmdjhfbhbheeaaGreatDoorFold4
namespace Go.Proofs.YthmdjhfbhbheeaaGreatDoor
open Go.Proofs.Tryz
set_option maxHeartbeats 2000000
set_option maxRecDepth 100000
section
open Go.RowKit Go.Lib Go.Shelf
theorem info_val:(prog.info? 31).map (fun i=>(i.zero,i.size,i.bytes))=some (some V0,4,40):=by kernel_rfl
def flat(D:List Qd):List Value:=D.flatMap Qd.C
theorem flat_len:∀D:List Qd,(flat D).length=D.length*4
 | []=>rfl
 | q::D=>by
  show(q.C++flat D).length=_
  have e:q.C.length=4:=rfl
  rw[List.length_append,flat_len D,e]
  show 4+D.length*4=(D.length+1)*4
  omega
theorem flat_at:∀(D:List Qd) (i:Nat) (q:Qd),D[i]?=some q→∀j,j<4→(flat D)[i*4+j]?=q.C[j]?
 | [],i,q,h,_,_=>by simp at h
 | p::D,0,q,h,j,hj=>by
  simp at h
  subst h
  show(p.C++flat D)[0*4+j]?=_
  rw[List.getElem?_append_left (by show 0*4+j<4;omega)]
  simp only[Nat.zero_mul,Nat.zero_add]
 | p::D,i+1,q,h,j,hj=>by
  rw[List.getElem?_cons_succ] at h
  show(p.C++flat D)[(i+1)*4+j]?=_
  rw[List.getElem?_append_right (by show 4≤(i+1)*4+j;omega)]
  have e:(i+1)*4+j-p.C.length=i*4+j:=by show(i+1)*4+j-4=_;omega
  rw[e]
  exact flat_at D i q h j hj
theorem flat_snoc(D:List Qd)(q:Qd):flat (D++[q])=flat D++q.C:=by
 unfold flat
 rw[List.flatMap_append]
 simp
theorem own_vrow{w:World}{base:Nat}{e:TypeId}{x:Value}{D:List Qd}(h:w.ownsRow base e 4 x D.length (flat D)):VRow w x D:=by
 rcases h.2 with ⟨rfl,hn⟩|⟨g,cap,cur,rfl,_,hh,hc,_,hs,ht⟩
 ·exact .inl ⟨rfl,List.eq_nil_of_length_eq_zero hn⟩
 ·refine .inr ⟨g,0,cap,rfl,hc,fun i q hi j hj=>?_⟩
  obtain⟨u,hu⟩:=qc_some q j hj
  have:=h.cells (g:=g) rfl (i*4+j) u ((flat_at D i q hi j hj).trans hu)
  have e:(⟨g,0,none⟩:Addr).add (i*4+j)=⟨g,0+(i*4+j),none⟩:=by
   unfold Addr.add
   split<;>simp_all
  rw[e] at this
  rw[this,hu]
theorem noNull_snoc{L:List Qd}{m:Nat}{q:Qd}(h:L[m]?=some q):noNull (L.take (m+1))=noNull (L.take m)++(if q.1 != 0 then [q] else []):=by
 unfold noNull
 rw[take_snoc h,List.filter_append]
 congr 1
 by_cases c:(q.1 != 0)=true
 ·simp[List.filter,c]
 ·have c':(q.1 != 0)=false:=by simpa using c
  simp[List.filter,c']
theorem noNull_le(L:List Qd)(m:Nat):(noNull (L.take m)).length≤L.length:=by
 unfold noNull
 exact Nat.le_trans (List.length_filter_le _ _) (by simp;omega)
theorem cI_tri(x y:Int):cI x y = -1∨cI x y=0∨cI x y=1:=by
 unfold cI
 by_cases h:x<y
 ·simp[h]
 ·by_cases h':y<x<;>simp[h,h']
theorem cb_tri(a b:List UInt8):compareBytes a b = -1∨compareBytes a b=0∨compareBytes a b=1:=by
 induction a generalizing b with
 | nil=>cases b<;>simp[compareBytes]
 | cons x xs ih=>
  cases b with
  | nil=>simp[compareBytes]
  | cons y ys=>
   unfold compareBytes
   repeat' split
   all_goals first|exact ih _|simp
theorem cmpQ_tri(q q':Qd):cmpQ q q' = -1∨cmpQ q q'=0∨cmpQ q q'=1:=by
 unfold cmpQ cmpR or5
 repeat' split
 all_goals first|exact cI_tri _ _|exact cb_tri _ _
theorem Q0_ok:Qd.ok Q0=true:=by
 unfold Qd.ok
 kernel_rfl
theorem rcmp_q(q q':Qd)(h:q.ok=true)(h':q'.ok=true)(hs:q.2.2.2.size≤4611686018427387904)(hs':q'.2.2.2.size≤4611686018427387904)(w:World):Calls prog 19 #[q.W,q'.W] w fun e w'=>e=.returned (.int .i64 (cmpQ q q'))∧G w w':=by
 obtain⟨k,a,b,s⟩:=q
 obtain⟨k',a',b',s'⟩:=q'
 unfold Qd.ok at h h'
 unfold cmpQ
 simp only at h h' hs hs'⊢
 have hk:=okV_kind k a b s h
 have hk':=okV_kind k' a' b' s' h'
 obtain⟨n,rfl⟩:∃n:Nat,k=n:=⟨k.toNat,by omega⟩
 obtain⟨n',rfl⟩:∃n:Nat,k'=n:=⟨k'.toNat,by omega⟩
 exact rCmp_11 _ _ _ _ _ _ s s' hs hs' (fun w=>by have:=rv_any n a b s hs w;rw[h] at this;exact this) (fun w=>by have:=rv_any n' a' b' s' hs' w;rw[h'] at this;exact this) w
noncomputable def bx(D:List Qd)(side:Int):Nat→Qd
 | 0=>Q0
 | m+1=>D.getD (bst D side m) Q0
theorem bx_first{D:List Qd}{q:Qd}(side:Int)(h:D[0]?=some q):bx D side 1=q:=by
 show D.getD 0 Q0=q
 rw[List.getD_eq_getElem?_getD,h];rfl
theorem bx_step{D:List Qd}{q:Qd}(side:Int){m:Nat}(h0:m≠0)(h:D[m]?=some q):bx D side (m+1)=if cmpQ q (bx D side m)=side then q else bx D side m:=by
 obtain⟨n,rfl⟩:∃n,m=n+1:=⟨m-1,by omega⟩
 have e:D.getD (n+1) (0,0,0,E0)=q:=by rw[List.getD_eq_getElem?_getD,h];rfl
 show D.getD (if cmpQ (D.getD (n+1) (0,0,0,E0)) (D.getD (bst D side n) (0,0,0,E0))=side then n+1 else bst D side n) Q0=if cmpQ q (D.getD (bst D side n) Q0)=side then q else D.getD (bst D side n) Q0
 rw[e]
 split
 ·exact e
 ·rfl
theorem bx_mem{D:List Qd}(side:Int){m:Nat}(hm:m≤D.length):bx D side m=Q0∨bx D side m∈D:=by
 cases m with
 | zero=>exact .inl rfl
 | succ m=>
  right
  have:=bst_le D side m
  show D.getD (bst D side m) Q0∈D
  rw[List.getD_eq_getElem?_getD,List.getElem?_eq_getElem (show bst D side m<D.length by omega)]
  exact List.getElem_mem _
def RT(w0:World)(B4 B8 b o:Nat)(tk ta tb:Int)(ts:ByteArray)(qk qa qb:Int)(qs:ByteArray)(W:World):Prop:=(∀(o:Nat),W.cell? {block:=B8,off:=o}=[I tk,I ta,I tb,Value.string ts][o]?)∧W.cell? {block:=b,off:=o}=some (I qk)∧W.cell? {block:=b,off:=o+1}=some (I qa)∧W.cell? {block:=b,off:=o+2}=some (I qb)∧W.cell? {block:=b,off:=o+3}=some (.string qs)∧
 (∀(o:Nat),W.cell? {block:=B4,off:=o}=[I 0,I 0,I 0,Value.string E0][o]?)∧(∀(o:Nat),W.frozen? {block:=B4,off:=o}=false)∧(∀(o:Nat),W.frozen? {block:=B8,off:=o}=false)∧G w0 W∧B4<W.heap.size∧B8<W.heap.size
theorem RT.keep{w0 W W':World}{B4 B8 b o:Nat}{tk ta tb:Int}{ts:ByteArray}{qk qa qb:Int}{qs:ByteArray}(hb:G W W')(h:RT w0 B4 B8 b o tk ta tb ts qk qa qb qs W):RT w0 B4 B8 b o tk ta tb ts qk qa qb qs W':=by
 obtain⟨h1,h2,h3,h4,h5,h6,h7,h8,h9,h10,h11⟩:=h
 exact⟨G.cells hb h1 h11,(hb.cell (cellLt h2)).trans h2,(hb.cell (cellLt h3)).trans h3,(hb.cell (cellLt h4)).trans h4,(hb.cell (cellLt h5)).trans h5,G.cells hb h6 h10,G.frozens hb h7 h10,G.frozens hb h8 h11,h9.trans hb,Nat.lt_of_lt_of_le h10 hb.size,Nat.lt_of_lt_of_le h11 hb.size⟩
theorem rt_of{w0 W:World}{B4 B8 b off n cap m:Nat}{t q:Qd}{D:List Qd}(h:SBox w0 t B4 B8 W)(hV:VRow W (.slice (some ⟨b,off,none⟩) n cap) D)(hq:D[m]?=some q):RT w0 B4 B8 b (off+m*4) t.1 t.2.1 t.2.2.1 t.2.2.2 q.1 q.2.1 q.2.2.1 q.2.2.2 W:=by
 obtain⟨h1,h2,h3,h4,h5,h6,h7⟩:=h
 obtain⟨c0,c1,c2,c3⟩:=vrow_at hV hq
 exact⟨h2,c0,c1,c2,c3,h1,h3,h4,h5,h6,h7⟩
theorem vrow_form{w:World}{x:Value}{D:List Qd}(h:VRow w x D):∃a cap,x=.slice a D.length cap:=by
 rcases h with ⟨h,hn⟩|⟨b,off,cap2,h,_⟩
 ·exact⟨_,_,by rw[h,hn];rfl⟩
 ·exact⟨_,_,h⟩
theorem fr1{D:List Qd}{rv:Value}{c:Int}{q:Qd}(h:FR 1 D rv c q):c=0∧q=(2,(D.length:Int),0,E0):=by
 rcases h with ⟨_,_,h1,h2⟩|⟨h,_⟩|⟨h,_⟩|⟨h,_⟩|⟨h,_⟩|⟨h,_⟩
 ·exact⟨h1,h2⟩
 all_goals omega
theorem fr2{D:List Qd}{rv:Value}{c:Int}{q:Qd}(h:FR 2 D rv c q):SR D rv c q:=by
 rcases h with ⟨h,_⟩|⟨_,h⟩|⟨h,_⟩|⟨h,_⟩|⟨h,_⟩|⟨h,_⟩
 ·omega
 ·exact h
 all_goals omega
theorem bx_end{D:List Qd}(side:Int)(hne:D≠[]):D.getD (bst D side (D.length-1)) Q0=bx D side D.length:=by
 have:=List.length_pos_iff.2 hne
 obtain⟨n,hn⟩:∃n,D.length=n+1:=⟨D.length-1,by omega⟩
 rw[hn]
 rfl
theorem fr3{D:List Qd}{rv:Value}{c:Int}{q:Qd}(h:FR 3 D rv c q):c=0∧q=bx D (-1) D.length:=by
 rcases h with ⟨h,_⟩|⟨h,_⟩|⟨_,hn,_,h1,h2⟩|⟨_,hne,_,h1,h2⟩|⟨h,_⟩|⟨h,_⟩
 iterate 2
  ·omega
 ·subst hn;exact⟨h1,h2⟩
 ·exact⟨h1,h2.trans (bx_end _ hne)⟩
 all_goals omega
theorem fr4{D:List Qd}{rv:Value}{c:Int}{q:Qd}(h:FR 4 D rv c q):c=0∧q=bx D 1 D.length:=by
 rcases h with ⟨h,_⟩|⟨h,_⟩|⟨_,hn,_,h1,h2⟩|⟨h,_⟩|⟨_,hne,_,h1,h2⟩|⟨h,_⟩
 iterate 2
  ·omega
 ·subst hn;exact⟨h1,h2⟩
 ·omega
 ·exact⟨h1,h2.trans (bx_end _ hne)⟩
 ·omega
end
section
open Go.RowKit Go.Lib Go.Shelf
theorem rFold_1(a:Option Addr)(cap:Nat)(L:List Qd)(w:World)(hV:L=[]∨VRow w (.slice a L.length cap) L)(hs:∀q∈L,q.2.2.2.size≤4611686018427387904)(hn:L.length*40≤140737488351232)(rv:Value)(c:Int)(q:Qd)
  (hR:(L.all Qd.ok=true∧GoodD (noNull L)∧FR 1 (noNull L) rv c q)∨(L.all Qd.ok=false∧c=16∧q=Q0)):Calls prog 54 #[.int .i64 1,.slice a L.length cap] w fun e w'=>e=.returned (.tuple #[q.W,.int .i64 c])∧G w w':=by
 obtain⟨i0,hi,hz0,hz1,hz2⟩:=info_parts info_val
 have HV:Hid _:=hV
 have HR:Hid _:=hR
 have HSL:Hid _:=hs
 clear hV hR hs
 obtain⟨qk,qa,qb,qs⟩:=q
 go_enter func54,ntmps54
 go_wp2
 go_loopw [6,7] (fun x i W=>∃m:Nat,m≤L.length∧i=.int .i64 m∧Hid (G (w.alloc (.cells #[I 0,I 0,I 0,.string E0] 31)) W)∧Hid (W.ownsRow (w.alloc (.cells #[I 0,I 0,I 0,.string E0] 31)).heap.size 31 4 x (noNull (L.take m)).length (flat (noNull (L.take m))))∧Hid ((L.take m).all Qd.ok=true)) (fun _ i _=>L.length-(RowKit.intOf i).toNat)
 case atStart=>exact⟨0,by omega,rfl,G.refl _,World.ownsRow_nil _ _ _ _,rfl⟩
 case round=>
  obtain⟨m,hm,rfl,HG,HO,HA⟩:=hrel
  by_cases hlt:m<L.length
  ·obtain⟨q,hq⟩:∃q,L[m]?=some q:=⟨L[m],List.getElem?_eq_getElem hlt⟩
   obtain⟨b,off,ea⟩:∃b off,a=some ⟨b,off,none⟩:=by
    rcases HV.out with hn|⟨h,hn⟩|⟨b,off,cap2,h,_⟩
    iterate 2
     ·rw[hn] at hlt;exact absurd hlt (Nat.not_lt_zero _)
    ·injection h with h _ _;exact⟨b,off,h⟩
   subst ea
   have HV':Hid (VRow w (.slice (some ⟨b,off,none⟩) L.length cap) L):=by
    rcases HV.out with hn|h
    ·rw[hn] at hlt;exact absurd hlt (Nat.not_lt_zero _)
    ·exact h
   have HC:Hid (∀W,G (w.alloc (.cells #[I 0,I 0,I 0,.string E0] 31)) W→W.cell? ⟨b,off+m*4,none⟩=some (I q.1)∧W.cell? ⟨b,off+m*4+1,none⟩=some (I q.2.1)∧W.cell? ⟨b,off+m*4+2,none⟩=some (I q.2.2.1)∧W.cell? ⟨b,off+m*4+3,none⟩=some (.string q.2.2.2)):=fun W g=>vrow_at (VRow.G HV'.out (((G.refl w).alloc _).trans g)) hq
   have R1:Hid (q.1=0→noNull (L.take (m+1))=noNull (L.take m)):=fun hk=>by rw[noNull_snoc hq,hk];simp
   have R2:Hid (q.1≠0→noNull (L.take (m+1))=noNull (L.take m)++[q]):=fun hk=>by rw[noNull_snoc hq];simp[hk]
   have R3:Hid (q.ok=true→(L.take (m+1)).all Qd.ok=true):=all_snoc hq HA.out
   have R4:Hid (q.ok=false→L.all Qd.ok=false):=all_no hq
   have hsz:=HSL.out q (List.mem_of_getElem? hq)
   have hle:=noNull_le L m
   clear hq
   obtain⟨k,a1,b1,s1⟩:=q
   simp only[Qd.ok] at R1 R2 R3 R4 HC hsz
   have HI:Hid _:=rv_any k a1 b1 s1 hsz
   clear hsz
   obtain⟨h0,h1,h2,h3⟩:=HC.out wr HG.out
   cases hok:okV k a1 b1 s1
   ·have R4':Hid _:=R4.out hok
    rw[hok] at HI
    clear R1 R2 R3 R4 hok
    go_wp2_with fail
    refine(HI.out _).mono ?_
    rintro e w1 ⟨rfl,hb1⟩
    have HG1:Hid (G (w.alloc (.cells #[I 0,I 0,I 0,.string E0] 31)) w1):=HG.out.trans hb1
    have cB:∀(o:Nat),w1.cell? {block:=w.heap.size,off:=o}=[I 0,I 0,I 0,Value.string E0][o]?:=G.cells HG1.out (fun o=>by simp) (by simp)
    have fB:∀(o:Nat),w1.frozen? {block:=w.heap.size,off:=o}=false:=G.frozens HG1.out (fun o=>by simp) (by simp)
    have gE:G w w1:=((G.refl w).alloc _).trans HG1.out
    have hq:c=16∧(qk,qa,qb,qs)=Q0:=by
     rcases HR.out with ⟨h,_⟩|⟨_,h⟩
     ·rw[R4'.out] at h;cases h
     ·exact h
    have HQ:Hid _:=hq
    clear hb1 h0 h1 h2 h3 hq
    go_wp2
    exact bodyPost_ret (v:=.tuple #[V0,.int .i64 16]) (by simp[results,results54,go_sem,cB]) rfl ⟨by rw[HQ.out.1,HQ.out.2],by repeat(first|exact gE|refine G.setCell ?_ (Nat.le_refl _) _)⟩
   ·have R3':Hid _:=R3.out hok
    rw[hok] at HI
    clear R3 R4 hok
    go_wp2_with fail
    refine(HI.out _).mono ?_
    rintro e w1 ⟨rfl,hb1⟩
    clear h0 h1 h2 h3
    have HG1:Hid (G (w.alloc (.cells #[I 0,I 0,I 0,.string E0] 31)) w1):=HG.out.trans hb1
    have HO1:Hid (w1.ownsRow (w.alloc (.cells #[I 0,I 0,I 0,.string E0] 31)).heap.size 31 4 _ (noNull (L.take m)).length (flat (noNull (L.take m)))):=own_G HO.out hb1
    obtain⟨h0,h1,h2,h3⟩:=HC.out w1 HG1.out
    clear hb1 HG HO
    by_cases hk:k=0
    ·have R1':Hid _:=R1.out hk
     have hk':(k != 0)=false:=by simp[hk]
     clear R1 R2 hk
     go_wp2
     go_roundw
     case rel=>exact⟨m+1,by omega,by go_num,HG1.out,by unfold Hid;rw[R1'.out];exact HO1.out,R3'.out⟩
     case measure=>simp[RowKit.intOf];omega
    ·have R2':Hid _:=R2.out hk
     have hk':(k != 0)=true:=by simpa using hk
     clear R1 R2 hk
     go_wp2_with (at_builtin;refine wpList_append_own _ rfl _ _ 32 rfl (w.alloc (.cells #[I 0,I 0,I 0,.string E0] 31)).heap.size 31 i0 V0 4 40 underlying32 hi hz0 hz1 hz2 rfl (by decide) _ _ _ rfl (World.ownsRow.alloc HO1.out _) ⟨w1.heap.size,0,none⟩ 1 1 [I k,I a1,I b1,.string s1] rfl rfl ?c1 ?c2 ?c3 ?c4 ?c5 ?_)
     case c1=>
      intro j u hj
      match j,hj with
      | 0,hj=>simp at hj;subst hj;simp[Addr.add]
      | 1,hj=>simp at hj;subst hj;simp[Addr.add]
      | 2,hj=>simp at hj;subst hj;simp[Addr.add]
      | 3,hj=>simp at hj;subst hj;simp[Addr.add]
     case c2=>
      intro u hu
      simp at hu
      rcases hu with rfl|rfl|rfl|rfl<;>rfl
     case c3=>unfold maxLen;omega
     case c4=>omega
     case c5=>have:=HG1.out.size;simp at this ⊢;omega
     intro x' w3 hown3 hgrow _
     have HG3:Hid (G (w.alloc (.cells #[I 0,I 0,I 0,.string E0] 31)) w3):=Below.grown (HG1.out.alloc _) hgrow (by have:=HG1.out.size;simp at this ⊢;omega) (fun g hg=>(World.ownsRow.lt HO1.out g hg).1)
     have HO3:Hid (w3.ownsRow (w.alloc (.cells #[I 0,I 0,I 0,.string E0] 31)).heap.size 31 4 x' (noNull (L.take (m+1))).length (flat (noNull (L.take (m+1))))):=by
      unfold Hid
      have es:(w.alloc (.cells #[I 0,I 0,I 0,.string E0] 31)).heap.size=w.heap.size+1:=by simp
      rw[R2'.out,List.length_append,flat_snoc,es]
      exact hown3
     clear hown3 hgrow
     go_wp2
     go_roundw
     case rel=>exact⟨m+1,by omega,by go_num,HG3.out,HO3.out,R3'.out⟩
     case measure=>simp[RowKit.intOf];omega
  ·have e:L.take m=L:=List.take_of_length_le (by omega)
   have hFG:GoodD (noNull L)∧FR 1 (noNull L) rv c (qk,qa,qb,qs):=by
    have hall:=HA.out
    rw[e] at hall
    rcases HR.out with ⟨_,h⟩|⟨h,_⟩
    ·exact h
    ·rw[hall] at h;cases h
   have HSz:Hid (∀q∈noNull L,q.2.2.2.size≤4611686018427387904):=fun q hq=>HSL.out q (List.mem_filter.1 hq).1
   rw[e] at HO
   generalize noNull L=D at HO hFG HSz
   have HGd:Hid (GoodD D):=hFG.1
   have HF:Hid (FR 1 D rv c (qk,qa,qb,qs)):=hFG.2
   have HVD:Hid _:=own_vrow HO.out
   obtain⟨a',cap',hx⟩:=vrow_form HVD.out
   subst hx
   have HGw:Hid (G w wr):=((G.refl w).alloc _).trans HG.out
   have hcB:∀(o:Nat),wr.cell? {block:=w.heap.size,off:=o}=[I 0,I 0,I 0,Value.string E0][o]?:=G.cells HG.out (fun o=>by simp) (by simp)
   have hfB:∀(o:Nat),wr.frozen? {block:=w.heap.size,off:=o}=false:=G.frozens HG.out (fun o=>by simp) (by simp)
   have hzB:w.heap.size<wr.heap.size:=by have:=HG.out.size;simp at this;omega
   have hDn:D.length≤140737488351232:=HGd.out.2
   clear HG HO HA hFG e hm
   generalize wr=w0 at HVD HGw hcB hfB hzB⊢
   obtain⟨rfl,hq⟩:=fr1 HF.out
   have HQ:Hid _:=hq
   clear hq HF
   go_wp2_with fail
   refine(rwhole _ _).mono ?_
   rintro e w5 ⟨rfl,hb5⟩
   have cB:∀(o:Nat),w5.cell? {block:=w.heap.size,off:=o}=[I 0,I 0,I 0,Value.string E0][o]?:=G.cells hb5 hcB hzB
   have fB:∀(o:Nat),w5.frozen? {block:=w.heap.size,off:=o}=false:=G.frozens hb5 hfB hzB
   have gE:G w w5:=HGw.out.trans hb5
   clear hb5 hcB hfB hzB
   go_wp2
   exact bodyPost_ret (v:=.tuple #[V 2 (D.length:Int) 0 E0,.int .i64 0]) (by simp[results,results54,go_sem,cB]) rfl ⟨by rw[HQ.out],by repeat(first|exact gE|refine G.setCell ?_ (Nat.le_refl _) _)⟩
theorem rFold_2(a:Option Addr)(cap:Nat)(L:List Qd)(w:World)(hV:L=[]∨VRow w (.slice a L.length cap) L)(hs:∀q∈L,q.2.2.2.size≤4611686018427387904)(hn:L.length*40≤140737488351232)(rv:Value)(c:Int)(q:Qd)
  (hR:(L.all Qd.ok=true∧GoodD (noNull L)∧FR 2 (noNull L) rv c q)∨(L.all Qd.ok=false∧c=16∧q=Q0)):Calls prog 54 #[.int .i64 2,.slice a L.length cap] w fun e w'=>e=.returned (.tuple #[q.W,.int .i64 c])∧G w w':=by
 obtain⟨i0,hi,hz0,hz1,hz2⟩:=info_parts info_val
 have HV:Hid _:=hV
 have HR:Hid _:=hR
 have HSL:Hid _:=hs
 clear hV hR hs
 obtain⟨qk,qa,qb,qs⟩:=q
 go_enter func54,ntmps54
 go_wp2
 go_loopw [6,7] (fun x i W=>∃m:Nat,m≤L.length∧i=.int .i64 m∧Hid (G (w.alloc (.cells #[I 0,I 0,I 0,.string E0] 31)) W)∧Hid (W.ownsRow (w.alloc (.cells #[I 0,I 0,I 0,.string E0] 31)).heap.size 31 4 x (noNull (L.take m)).length (flat (noNull (L.take m))))∧Hid ((L.take m).all Qd.ok=true)) (fun _ i _=>L.length-(RowKit.intOf i).toNat)
 case atStart=>exact⟨0,by omega,rfl,G.refl _,World.ownsRow_nil _ _ _ _,rfl⟩
 case round=>
  obtain⟨m,hm,rfl,HG,HO,HA⟩:=hrel
  by_cases hlt:m<L.length
  ·obtain⟨q,hq⟩:∃q,L[m]?=some q:=⟨L[m],List.getElem?_eq_getElem hlt⟩
   obtain⟨b,off,ea⟩:∃b off,a=some ⟨b,off,none⟩:=by
    rcases HV.out with hn|⟨h,hn⟩|⟨b,off,cap2,h,_⟩
    iterate 2
     ·rw[hn] at hlt;exact absurd hlt (Nat.not_lt_zero _)
    ·injection h with h _ _;exact⟨b,off,h⟩
   subst ea
   have HV':Hid (VRow w (.slice (some ⟨b,off,none⟩) L.length cap) L):=by
    rcases HV.out with hn|h
    ·rw[hn] at hlt;exact absurd hlt (Nat.not_lt_zero _)
    ·exact h
   have HC:Hid (∀W,G (w.alloc (.cells #[I 0,I 0,I 0,.string E0] 31)) W→W.cell? ⟨b,off+m*4,none⟩=some (I q.1)∧W.cell? ⟨b,off+m*4+1,none⟩=some (I q.2.1)∧W.cell? ⟨b,off+m*4+2,none⟩=some (I q.2.2.1)∧W.cell? ⟨b,off+m*4+3,none⟩=some (.string q.2.2.2)):=fun W g=>vrow_at (VRow.G HV'.out (((G.refl w).alloc _).trans g)) hq
   have R1:Hid (q.1=0→noNull (L.take (m+1))=noNull (L.take m)):=fun hk=>by rw[noNull_snoc hq,hk];simp
   have R2:Hid (q.1≠0→noNull (L.take (m+1))=noNull (L.take m)++[q]):=fun hk=>by rw[noNull_snoc hq];simp[hk]
   have R3:Hid (q.ok=true→(L.take (m+1)).all Qd.ok=true):=all_snoc hq HA.out
   have R4:Hid (q.ok=false→L.all Qd.ok=false):=all_no hq
   have hsz:=HSL.out q (List.mem_of_getElem? hq)
   have hle:=noNull_le L m
   clear hq
   obtain⟨k,a1,b1,s1⟩:=q
   simp only[Qd.ok] at R1 R2 R3 R4 HC hsz
   have HI:Hid _:=rv_any k a1 b1 s1 hsz
   clear hsz
   obtain⟨h0,h1,h2,h3⟩:=HC.out wr HG.out
   cases hok:okV k a1 b1 s1
   ·have R4':Hid _:=R4.out hok
    rw[hok] at HI
    clear R1 R2 R3 R4 hok
    go_wp2_with fail
    refine(HI.out _).mono ?_
    rintro e w1 ⟨rfl,hb1⟩
    have HG1:Hid (G (w.alloc (.cells #[I 0,I 0,I 0,.string E0] 31)) w1):=HG.out.trans hb1
    have cB:∀(o:Nat),w1.cell? {block:=w.heap.size,off:=o}=[I 0,I 0,I 0,Value.string E0][o]?:=G.cells HG1.out (fun o=>by simp) (by simp)
    have fB:∀(o:Nat),w1.frozen? {block:=w.heap.size,off:=o}=false:=G.frozens HG1.out (fun o=>by simp) (by simp)
    have gE:G w w1:=((G.refl w).alloc _).trans HG1.out
    have hq:c=16∧(qk,qa,qb,qs)=Q0:=by
     rcases HR.out with ⟨h,_⟩|⟨_,h⟩
     ·rw[R4'.out] at h;cases h
     ·exact h
    have HQ:Hid _:=hq
    clear hb1 h0 h1 h2 h3 hq
    go_wp2
    exact bodyPost_ret (v:=.tuple #[V0,.int .i64 16]) (by simp[results,results54,go_sem,cB]) rfl ⟨by rw[HQ.out.1,HQ.out.2],by repeat(first|exact gE|refine G.setCell ?_ (Nat.le_refl _) _)⟩
   ·have R3':Hid _:=R3.out hok
    rw[hok] at HI
    clear R3 R4 hok
    go_wp2_with fail
    refine(HI.out _).mono ?_
    rintro e w1 ⟨rfl,hb1⟩
    clear h0 h1 h2 h3
    have HG1:Hid (G (w.alloc (.cells #[I 0,I 0,I 0,.string E0] 31)) w1):=HG.out.trans hb1
    have HO1:Hid (w1.ownsRow (w.alloc (.cells #[I 0,I 0,I 0,.string E0] 31)).heap.size 31 4 _ (noNull (L.take m)).length (flat (noNull (L.take m)))):=own_G HO.out hb1
    obtain⟨h0,h1,h2,h3⟩:=HC.out w1 HG1.out
    clear hb1 HG HO
    by_cases hk:k=0
    ·have R1':Hid _:=R1.out hk
     have hk':(k != 0)=false:=by simp[hk]
     clear R1 R2 hk
     go_wp2
     go_roundw
     case rel=>exact⟨m+1,by omega,by go_num,HG1.out,by unfold Hid;rw[R1'.out];exact HO1.out,R3'.out⟩
     case measure=>simp[RowKit.intOf];omega
    ·have R2':Hid _:=R2.out hk
     have hk':(k != 0)=true:=by simpa using hk
     clear R1 R2 hk
     go_wp2_with (at_builtin;refine wpList_append_own _ rfl _ _ 32 rfl (w.alloc (.cells #[I 0,I 0,I 0,.string E0] 31)).heap.size 31 i0 V0 4 40 underlying32 hi hz0 hz1 hz2 rfl (by decide) _ _ _ rfl (World.ownsRow.alloc HO1.out _) ⟨w1.heap.size,0,none⟩ 1 1 [I k,I a1,I b1,.string s1] rfl rfl ?c1 ?c2 ?c3 ?c4 ?c5 ?_)
     case c1=>
      intro j u hj
      match j,hj with
      | 0,hj=>simp at hj;subst hj;simp[Addr.add]
      | 1,hj=>simp at hj;subst hj;simp[Addr.add]
      | 2,hj=>simp at hj;subst hj;simp[Addr.add]
      | 3,hj=>simp at hj;subst hj;simp[Addr.add]
     case c2=>
      intro u hu
      simp at hu
      rcases hu with rfl|rfl|rfl|rfl<;>rfl
     case c3=>unfold maxLen;omega
     case c4=>omega
     case c5=>have:=HG1.out.size;simp at this ⊢;omega
     intro x' w3 hown3 hgrow _
     have HG3:Hid (G (w.alloc (.cells #[I 0,I 0,I 0,.string E0] 31)) w3):=Below.grown (HG1.out.alloc _) hgrow (by have:=HG1.out.size;simp at this ⊢;omega) (fun g hg=>(World.ownsRow.lt HO1.out g hg).1)
     have HO3:Hid (w3.ownsRow (w.alloc (.cells #[I 0,I 0,I 0,.string E0] 31)).heap.size 31 4 x' (noNull (L.take (m+1))).length (flat (noNull (L.take (m+1))))):=by
      unfold Hid
      have es:(w.alloc (.cells #[I 0,I 0,I 0,.string E0] 31)).heap.size=w.heap.size+1:=by simp
      rw[R2'.out,List.length_append,flat_snoc,es]
      exact hown3
     clear hown3 hgrow
     go_wp2
     go_roundw
     case rel=>exact⟨m+1,by omega,by go_num,HG3.out,HO3.out,R3'.out⟩
     case measure=>simp[RowKit.intOf];omega
  ·have e:L.take m=L:=List.take_of_length_le (by omega)
   have hFG:GoodD (noNull L)∧FR 2 (noNull L) rv c (qk,qa,qb,qs):=by
    have hall:=HA.out
    rw[e] at hall
    rcases HR.out with ⟨_,h⟩|⟨h,_⟩
    ·exact h
    ·rw[hall] at h;cases h
   have HSz:Hid (∀q∈noNull L,q.2.2.2.size≤4611686018427387904):=fun q hq=>HSL.out q (List.mem_filter.1 hq).1
   rw[e] at HO
   generalize noNull L=D at HO hFG HSz
   have HGd:Hid (GoodD D):=hFG.1
   have HF:Hid (FR 2 D rv c (qk,qa,qb,qs)):=hFG.2
   have HVD:Hid _:=own_vrow HO.out
   obtain⟨a',cap',hx⟩:=vrow_form HVD.out
   subst hx
   have HGw:Hid (G w wr):=((G.refl w).alloc _).trans HG.out
   have hcB:∀(o:Nat),wr.cell? {block:=w.heap.size,off:=o}=[I 0,I 0,I 0,Value.string E0][o]?:=G.cells HG.out (fun o=>by simp) (by simp)
   have hfB:∀(o:Nat),wr.frozen? {block:=w.heap.size,off:=o}=false:=G.frozens HG.out (fun o=>by simp) (by simp)
   have hzB:w.heap.size<wr.heap.size:=by have:=HG.out.size;simp at this;omega
   have hDn:D.length≤140737488351232:=HGd.out.2
   clear HG HO HA hFG e hm
   generalize wr=w0 at HVD HGw hcB hfB hzB⊢
   have HS:Hid _:=fr2 HF.out
   go_wp2_with fail
   refine(sd_any HGd.out HS.out _ _ HVD.out).mono ?_
   rintro e w5 ⟨rfl,hb5⟩
   have cB:∀(o:Nat),w5.cell? {block:=w.heap.size,off:=o}=[I 0,I 0,I 0,Value.string E0][o]?:=G.cells hb5 hcB hzB
   have fB:∀(o:Nat),w5.frozen? {block:=w.heap.size,off:=o}=false:=G.frozens hb5 hfB hzB
   have gE:G w w5:=HGw.out.trans hb5
   clear hb5 hcB hfB hzB
   go_wp2
   exact bodyPost_ret (v:=.tuple #[V qk qa qb qs,.int .i64 c]) (by simp[results,results54,go_sem,cB]) rfl ⟨rfl,by repeat(first|exact gE|refine G.setCell ?_ (Nat.le_refl _) _)⟩
theorem rFold_5(a:Option Addr)(cap:Nat)(L:List Qd)(w:World)(hV:L=[]∨VRow w (.slice a L.length cap) L)(hs:∀q∈L,q.2.2.2.size≤4611686018427387904)(hn:L.length*40≤140737488351232)(rv:Value)(c:Int)(q:Qd)
  (hR:(L.all Qd.ok=true∧GoodD (noNull L)∧FR 5 (noNull L) rv c q)∨(L.all Qd.ok=false∧c=16∧q=Q0)):Calls prog 54 #[.int .i64 5,.slice a L.length cap] w fun e w'=>e=.returned (.tuple #[q.W,.int .i64 c])∧G w w':=by
 obtain⟨i0,hi,hz0,hz1,hz2⟩:=info_parts info_val
 have HV:Hid _:=hV
 have HR:Hid _:=hR
 have HSL:Hid _:=hs
 clear hV hR hs
 obtain⟨qk,qa,qb,qs⟩:=q
 go_enter func54,ntmps54
 go_wp2
 go_loopw [6,7] (fun x i W=>∃m:Nat,m≤L.length∧i=.int .i64 m∧Hid (G (w.alloc (.cells #[I 0,I 0,I 0,.string E0] 31)) W)∧Hid (W.ownsRow (w.alloc (.cells #[I 0,I 0,I 0,.string E0] 31)).heap.size 31 4 x (noNull (L.take m)).length (flat (noNull (L.take m))))∧Hid ((L.take m).all Qd.ok=true)) (fun _ i _=>L.length-(RowKit.intOf i).toNat)
 case atStart=>exact⟨0,by omega,rfl,G.refl _,World.ownsRow_nil _ _ _ _,rfl⟩
 case round=>
  obtain⟨m,hm,rfl,HG,HO,HA⟩:=hrel
  by_cases hlt:m<L.length
  ·obtain⟨q,hq⟩:∃q,L[m]?=some q:=⟨L[m],List.getElem?_eq_getElem hlt⟩
   obtain⟨b,off,ea⟩:∃b off,a=some ⟨b,off,none⟩:=by
    rcases HV.out with hn|⟨h,hn⟩|⟨b,off,cap2,h,_⟩
    iterate 2
     ·rw[hn] at hlt;exact absurd hlt (Nat.not_lt_zero _)
    ·injection h with h _ _;exact⟨b,off,h⟩
   subst ea
   have HV':Hid (VRow w (.slice (some ⟨b,off,none⟩) L.length cap) L):=by
    rcases HV.out with hn|h
    ·rw[hn] at hlt;exact absurd hlt (Nat.not_lt_zero _)
    ·exact h
   have HC:Hid (∀W,G (w.alloc (.cells #[I 0,I 0,I 0,.string E0] 31)) W→W.cell? ⟨b,off+m*4,none⟩=some (I q.1)∧W.cell? ⟨b,off+m*4+1,none⟩=some (I q.2.1)∧W.cell? ⟨b,off+m*4+2,none⟩=some (I q.2.2.1)∧W.cell? ⟨b,off+m*4+3,none⟩=some (.string q.2.2.2)):=fun W g=>vrow_at (VRow.G HV'.out (((G.refl w).alloc _).trans g)) hq
   have R1:Hid (q.1=0→noNull (L.take (m+1))=noNull (L.take m)):=fun hk=>by rw[noNull_snoc hq,hk];simp
   have R2:Hid (q.1≠0→noNull (L.take (m+1))=noNull (L.take m)++[q]):=fun hk=>by rw[noNull_snoc hq];simp[hk]
   have R3:Hid (q.ok=true→(L.take (m+1)).all Qd.ok=true):=all_snoc hq HA.out
   have R4:Hid (q.ok=false→L.all Qd.ok=false):=all_no hq
   have hsz:=HSL.out q (List.mem_of_getElem? hq)
   have hle:=noNull_le L m
   clear hq
   obtain⟨k,a1,b1,s1⟩:=q
   simp only[Qd.ok] at R1 R2 R3 R4 HC hsz
   have HI:Hid _:=rv_any k a1 b1 s1 hsz
   clear hsz
   obtain⟨h0,h1,h2,h3⟩:=HC.out wr HG.out
   cases hok:okV k a1 b1 s1
   ·have R4':Hid _:=R4.out hok
    rw[hok] at HI
    clear R1 R2 R3 R4 hok
    go_wp2_with fail
    refine(HI.out _).mono ?_
    rintro e w1 ⟨rfl,hb1⟩
    have HG1:Hid (G (w.alloc (.cells #[I 0,I 0,I 0,.string E0] 31)) w1):=HG.out.trans hb1
    have cB:∀(o:Nat),w1.cell? {block:=w.heap.size,off:=o}=[I 0,I 0,I 0,Value.string E0][o]?:=G.cells HG1.out (fun o=>by simp) (by simp)
    have fB:∀(o:Nat),w1.frozen? {block:=w.heap.size,off:=o}=false:=G.frozens HG1.out (fun o=>by simp) (by simp)
    have gE:G w w1:=((G.refl w).alloc _).trans HG1.out
    have hq:c=16∧(qk,qa,qb,qs)=Q0:=by
     rcases HR.out with ⟨h,_⟩|⟨_,h⟩
     ·rw[R4'.out] at h;cases h
     ·exact h
    have HQ:Hid _:=hq
    clear hb1 h0 h1 h2 h3 hq
    go_wp2
    exact bodyPost_ret (v:=.tuple #[V0,.int .i64 16]) (by simp[results,results54,go_sem,cB]) rfl ⟨by rw[HQ.out.1,HQ.out.2],by repeat(first|exact gE|refine G.setCell ?_ (Nat.le_refl _) _)⟩
   ·have R3':Hid _:=R3.out hok
    rw[hok] at HI
    clear R3 R4 hok
    go_wp2_with fail
    refine(HI.out _).mono ?_
    rintro e w1 ⟨rfl,hb1⟩
    clear h0 h1 h2 h3
    have HG1:Hid (G (w.alloc (.cells #[I 0,I 0,I 0,.string E0] 31)) w1):=HG.out.trans hb1
    have HO1:Hid (w1.ownsRow (w.alloc (.cells #[I 0,I 0,I 0,.string E0] 31)).heap.size 31 4 _ (noNull (L.take m)).length (flat (noNull (L.take m)))):=own_G HO.out hb1
    obtain⟨h0,h1,h2,h3⟩:=HC.out w1 HG1.out
    clear hb1 HG HO
    by_cases hk:k=0
    ·have R1':Hid _:=R1.out hk
     have hk':(k != 0)=false:=by simp[hk]
     clear R1 R2 hk
     go_wp2
     go_roundw
     case rel=>exact⟨m+1,by omega,by go_num,HG1.out,by unfold Hid;rw[R1'.out];exact HO1.out,R3'.out⟩
     case measure=>simp[RowKit.intOf];omega
    ·have R2':Hid _:=R2.out hk
     have hk':(k != 0)=true:=by simpa using hk
     clear R1 R2 hk
     go_wp2_with (at_builtin;refine wpList_append_own _ rfl _ _ 32 rfl (w.alloc (.cells #[I 0,I 0,I 0,.string E0] 31)).heap.size 31 i0 V0 4 40 underlying32 hi hz0 hz1 hz2 rfl (by decide) _ _ _ rfl (World.ownsRow.alloc HO1.out _) ⟨w1.heap.size,0,none⟩ 1 1 [I k,I a1,I b1,.string s1] rfl rfl ?c1 ?c2 ?c3 ?c4 ?c5 ?_)
     case c1=>
      intro j u hj
      match j,hj with
      | 0,hj=>simp at hj;subst hj;simp[Addr.add]
      | 1,hj=>simp at hj;subst hj;simp[Addr.add]
      | 2,hj=>simp at hj;subst hj;simp[Addr.add]
      | 3,hj=>simp at hj;subst hj;simp[Addr.add]
     case c2=>
      intro u hu
      simp at hu
      rcases hu with rfl|rfl|rfl|rfl<;>rfl
     case c3=>unfold maxLen;omega
     case c4=>omega
     case c5=>have:=HG1.out.size;simp at this ⊢;omega
     intro x' w3 hown3 hgrow _
     have HG3:Hid (G (w.alloc (.cells #[I 0,I 0,I 0,.string E0] 31)) w3):=Below.grown (HG1.out.alloc _) hgrow (by have:=HG1.out.size;simp at this ⊢;omega) (fun g hg=>(World.ownsRow.lt HO1.out g hg).1)
     have HO3:Hid (w3.ownsRow (w.alloc (.cells #[I 0,I 0,I 0,.string E0] 31)).heap.size 31 4 x' (noNull (L.take (m+1))).length (flat (noNull (L.take (m+1))))):=by
      unfold Hid
      have es:(w.alloc (.cells #[I 0,I 0,I 0,.string E0] 31)).heap.size=w.heap.size+1:=by simp
      rw[R2'.out,List.length_append,flat_snoc,es]
      exact hown3
     clear hown3 hgrow
     go_wp2
     go_roundw
     case rel=>exact⟨m+1,by omega,by go_num,HG3.out,HO3.out,R3'.out⟩
     case measure=>simp[RowKit.intOf];omega
  ·have e:L.take m=L:=List.take_of_length_le (by omega)
   have hFG:GoodD (noNull L)∧FR 5 (noNull L) rv c (qk,qa,qb,qs):=by
    have hall:=HA.out
    rw[e] at hall
    rcases HR.out with ⟨_,h⟩|⟨h,_⟩
    ·exact h
    ·rw[hall] at h;cases h
   have HSz:Hid (∀q∈noNull L,q.2.2.2.size≤4611686018427387904):=fun q hq=>HSL.out q (List.mem_filter.1 hq).1
   rw[e] at HO
   generalize noNull L=D at HO hFG HSz
   have HGd:Hid (GoodD D):=hFG.1
   have HF:Hid (FR 5 D rv c (qk,qa,qb,qs)):=hFG.2
   have HVD:Hid _:=own_vrow HO.out
   obtain⟨a',cap',hx⟩:=vrow_form HVD.out
   subst hx
   have HGw:Hid (G w wr):=((G.refl w).alloc _).trans HG.out
   have hcB:∀(o:Nat),wr.cell? {block:=w.heap.size,off:=o}=[I 0,I 0,I 0,Value.string E0][o]?:=G.cells HG.out (fun o=>by simp) (by simp)
   have hfB:∀(o:Nat),wr.frozen? {block:=w.heap.size,off:=o}=false:=G.frozens HG.out (fun o=>by simp) (by simp)
   have hzB:w.heap.size<wr.heap.size:=by have:=HG.out.size;simp at this;omega
   have hDn:D.length≤140737488351232:=HGd.out.2
   clear HG HO HA hFG e hm
   generalize wr=w0 at HVD HGw hcB hfB hzB⊢
   go_wp2_with fail
   refine(mn_any HGd.out HF.out _ _ HVD.out).mono ?_
   rintro e w5 ⟨rfl,hb5⟩
   have cB:∀(o:Nat),w5.cell? {block:=w.heap.size,off:=o}=[I 0,I 0,I 0,Value.string E0][o]?:=G.cells hb5 hcB hzB
   have fB:∀(o:Nat),w5.frozen? {block:=w.heap.size,off:=o}=false:=G.frozens hb5 hfB hzB
   have gE:G w w5:=HGw.out.trans hb5
   clear hb5 hcB hfB hzB
   go_wp2
   exact bodyPost_ret (v:=.tuple #[V qk qa qb qs,.int .i64 c]) (by simp[results,results54,go_sem,cB]) rfl ⟨rfl,by repeat(first|exact gE|refine G.setCell ?_ (Nat.le_refl _) _)⟩
end
end Go.Proofs.YthmdjhfbhbheeaaGreatDoor
