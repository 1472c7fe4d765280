import Derived.Laws.AppendOwnNone
import Derived.Test.YthmdjhfbhbheeaaGreatDoorCmpPlays
namespace Go.Proofs.YthmdjhfbhbheeaaGreatDoor
open Go.Proofs.Tryz
set_option maxHeartbeats 4000000
set_option maxRecDepth 100000
section
open Go.RowKit Go.Lib Go.Shelf
theorem zMb(agg:Int)(x:Value)(ho:agg<1∨5<agg)(w:World):CG 54 #[.int .i64 agg,x] w (.tuple #[V0,.int .i64 1]):=by
 by_cases h:agg<1
 ·clear ho
  go_enter func54,ntmps54
  go_wp2
  exact bodyPost_ret (v:=.tuple #[V0,.int .i64 1]) (by simp[results,results54,go_sem]) rfl ⟨rfl,by repeat(first|exact G.refl _|refine G.alloc ?_ _|refine G.setCell ?_ (by simp) _)⟩
 ·have h':5<agg:=by omega
  clear ho
  go_enter func54,ntmps54
  go_wp2
  exact bodyPost_ret (v:=.tuple #[V0,.int .i64 1]) (by simp[results,results54,go_sem]) rfl ⟨rfl,by repeat(first|exact G.refl _|refine G.alloc ?_ _|refine G.setCell ?_ (by simp) _)⟩
theorem zGE(agg:Int)(h1:1≤agg)(h5:agg≤5)(a:Option Addr)(cap:Nat)(L:List Qd)(w:World)(hV:L=[]∨VRow w (.slice a L.length cap) L)(hs:∀q∈L,q.2.2.2.size≤4611686018427387904)(hn:L.length*40≤140737488351232)(rv:Value)(c:Int)(q:Qd)
  (hR:(L.all Qd.ok=true∧zBq (zAc L)∧FR agg (zAc L) rv c q)∨(L.all Qd.ok=false∧c=16∧q=Q0)):CG 54 #[.int .i64 agg,.slice a L.length cap] w (.tuple #[q.W,.int .i64 c]):=by
 have d:agg=1∨agg=2∨agg=3∨agg=4∨agg=5:=by omega
 rcases d with rfl|rfl|rfl|rfl|rfl
 ·exact zSG a cap L w hV hs hn rv c q hR
 ·exact zSF a cap L w hV hs hn rv c q hR
 ·exact zSE a cap L w hV hs hn rv c q hR
 ·exact zSD a cap L w hV hs hn rv c q hR
 ·exact zSC a cap L w hV hs hn rv c q hR
def LOk(L:List Qd):Prop:=L.length*40≤reachBytes∧∀q∈L,I64 q.2.1∧q.2.2.2.size≤reachBytes
theorem zFR:reachBytes≤140737488351232:=by unfold reachBytes;omega
theorem zTN{L:List Qd}(h:LOk L)(hA:L.all Qd.ok=true):zBq (zAc L):=by
 have hr:=zFR;refine⟨fun q hq=>?_,?_⟩
 ·obtain⟨hm,hk⟩:=List.mem_filter.1 hq
  exact⟨List.all_eq_true.1 hA q hm,by simpa using hk,(h.2 q hm).1⟩
 ·have h1:(zAc L).length≤L.length:=List.length_filter_le _ _
  have:=h.1;omega
theorem zNy(agg:Int)(a:Option Addr)(cap:Nat)(L:List Qd)(w:World)(hT:Rdy w)(hV:L=[]∨VRow w (.slice a L.length cap) L)(hL:LOk L) :
  ∃(q:Qd) (c:Int),(∀W x,G w W→VRow W x L→CG 53 #[.int .i64 agg,x] W (.tuple #[q.W,.int .i64 c]))∧(∀W,G w W→CG 54 #[.int .i64 agg,.slice a L.length cap] W (.tuple #[q.W,.int .i64 c])):=by
 have hr:=zFR;have hn:L.length*40≤140737488351232:=Nat.le_trans hL.1 hr
 have hs:∀q∈L,q.2.2.2.size≤4611686018427387904:=fun q hq=>by have:=(hL.2 q hq).2;omega
 have hVG:∀W,G w W→L=[]∨VRow W (.slice a L.length cap) L:=fun W g=>hV.imp id fun h=>h.G g
 by_cases ho:agg<1∨5<agg
 ·exact⟨Q0,1,fun W x _ _=>zQU agg x ho W,fun W _=>zMb agg _ ho W⟩
 ·have h1:1≤agg:=by omega
  have h5:agg≤5:=by omega
  cases hA:L.all Qd.ok
  ·exact⟨Q0,16,fun W x g h=>zQT agg h1 h5 x L W (hT.G g).1 h hn hA,fun W g=>zGE agg h1 h5 a cap L W (hVG W g) hs hn V0 16 Q0 (.inr ⟨hA,rfl,rfl⟩)⟩
  ·have hD:=zTN hL hA
   obtain⟨rv,c,q,hF⟩:=zYa agg h1 h5 (zAc L) hD;exact⟨q,c,fun W x g h=>zUC agg h1 h5 x L W (hT.G g).1 (hT.G g).2 h hn hA hD rv c q hF,fun W g=>zGE agg h1 h5 a cap L W (hVG W g) hs hn rv c q (.inl ⟨hA,hD,hF⟩)⟩
theorem zRH{w:World}{x:Value}(h:VsOk w x):∃(a:Option Addr) (cap:Nat) (L:List Qd),x=.slice a L.length cap∧(L=[]∨VRow w (.slice a L.length cap) L)∧LOk L∧((a=none∧L=[]∧cap=0)∨∃ad,a=some ad∧∀j u,(flat L)[j]?=some u→w.cell? (ad.add j)=some u):=by
 rcases h with rfl|⟨ad,len,cap,Q,rfl,hlc,hb,hQ⟩
 ·exact⟨none,0,[],rfl,.inl rfl,⟨Nat.zero_le _,fun q hq=>absurd hq (List.not_mem_nil)⟩,.inl ⟨rfl,rfl,rfl⟩⟩
 ·have hl:((List.range len).map Q).length=len:=by simp
  have hat:∀i q,((List.range len).map Q)[i]?=some q→i<len∧q=Q i:=fun i q hi=>by
   obtain⟨h1,h2⟩:=List.getElem?_eq_some_iff.1 hi;rw[hl] at h1;exact⟨h1,by simpa using h2.symm⟩
  have hfl:∀j u,(flat ((List.range len).map Q))[j]?=some u→w.cell? (ad.add j)=some u:=fun j u hj=>by
   have hlt:j<len*4:=by
    have:=(List.getElem?_eq_some_iff.1 hj).1;rw[zF4,hl] at this;exact this
   have e:j=(j/4)*4+j%4:=by omega
   have hi:j/4<len:=by omega
   rw[e,zH6 _ (j/4) (Q (j/4)) (by simp[hi]) (j%4) (by omega)] at hj;rw[e,(hQ (j/4) (by omega)).1 (j%4) (by omega)];exact hj
  refine⟨some ad,cap,(List.range len).map Q,by rw[hl],?_,⟨by rw[hl];exact Nat.le_trans (Nat.mul_le_mul_right 40 hlc) hb,fun q hq=>?_⟩,.inr ⟨ad,rfl,hfl⟩⟩
  ·by_cases h0:len=0
   ·subst h0;exact .inl rfl
   ·right;right
    have hsp:ad.spot=none:=by
     have:=(hQ 0 (by omega)).1 0 (by omega);have:=World.cell?_spot this
     simpa [Addr.add] using this
    obtain⟨b,off,sp⟩:=ad;simp only at hsp;subst hsp;refine⟨b,off,cap,rfl,by rw[hl];exact hlc,fun i q hi j hj=>?_⟩;obtain⟨h1,rfl⟩:=hat i q hi;have:=(hQ i (by omega)).1 j hj;rw[show(⟨b,off,none⟩:Addr).add (i*4+j)=⟨b,off+(i*4+j),none⟩ by unfold Addr.add;split<;>simp_all] at this;exact this
  ·obtain⟨i,hi,rfl⟩:=List.mem_map.1 hq
   have hi':=List.mem_range.1 hi;have:=hQ i (by omega);exact⟨this.2.2.1,this.2.2.2.2⟩
end
section
open Go.RowKit Go.Lib Go.Shelf
attribute [local go_sem] eqV neqV
def mks(m:Nat):List Qd:=(List.range m).map fun (i:Nat)=>((77:Int),(i:Int),(0:Int),E0)
theorem zJc(m:Nat):mks (m+1)=mks m++[(77,(m:Int),0,E0)]:=by
 unfold mks;rw[List.range_succ,List.map_append];rfl
theorem zPS(L:List Qd):∀u∈flat L,u.oneCell'=true:=fun u hu=>by
 unfold flat at hu;obtain⟨q,_,hq⟩:=List.mem_flatMap.1 hu;simp at hq
 rcases hq with rfl|rfl|rfl|rfl<;>rfl
theorem zMu{w:World}{base:Nat}{e:TypeId}{y:Value}{L:List Qd}(h:w.ownsRow base e 4 y (L++mks 3).length (flat (L++mks 3))) :
  ∃g cap,y=.slice (some ⟨g,0,none⟩) (L.length+3) cap∧base≤g∧L.length+3≤cap∧VRow w (.slice (some ⟨g,0,none⟩) (L.length+3) cap) (L++mks 3):=by
 have hl:(L++mks 3).length=L.length+3:=by simp[mks]
 have hv:=zC0 h
 rcases h.2 with ⟨_,hn⟩|⟨g,cap,cur,rfl,hb,hh,hc,_⟩
 ·omega
 ·rw[hl] at hc hv⊢
  exact⟨g,cap,rfl,hb,hc,hv⟩
theorem zHm{w:World}{b off n cap:Nat}{L M:List Qd}(h:VRow w (.slice (some ⟨b,off,none⟩) n cap) (L++M))(hc:L.length≤cap):VRow w (.slice (some ⟨b,off,none⟩) L.length cap) L:=by
 rcases h with ⟨h,_⟩|⟨b',off',cap',he,_,hcell⟩
 ·cases h
 ·injection he with h1 h2 h3
  injection h1 with h1
  injection h1 with h4 h5
  subst h4 h5 h3;exact .inr ⟨b,off,cap,rfl,hc,fun i q hi j hj=>hcell i q (by rw[List.getElem?_append_left (List.getElem?_eq_some_iff.1 hi).1];exact hi) j hj⟩
def W8P(w w3:World)(B6 B8:Nat)(f:Nat→Option Value)(qk qa qb:Int)(qs:ByteArray)(W:World):Prop:=G w3 W∧(∀(o:Nat),W.cell? {block:=w.heap.size,off:=o}=f o)∧(∀(o:Nat),W.cell? {block:=B6,off:=o}=[I qk,I qa,I qb,Value.string qs][o]?)∧(∀(o:Nat),W.cell? {block:=B8,off:=o}=[I qk,I qa,I qb,Value.string qs][o]?)∧w.heap.size<W.heap.size∧B6<W.heap.size∧B8<W.heap.size
theorem W8P.keep{w w3 W W':World}{B6 B8:Nat}{f:Nat→Option Value}{qk qa qb:Int}{qs:ByteArray}(g:G W W')(h:W8P w w3 B6 B8 f qk qa qb qs W):W8P w w3 B6 B8 f qk qa qb qs W':=
 ⟨h.1.trans g,G.cells g h.2.1 h.2.2.2.2.1,G.cells g h.2.2.1 h.2.2.2.2.2.1,G.cells g h.2.2.2.1 h.2.2.2.2.2.2,Nat.lt_of_lt_of_le h.2.2.2.2.1 g.size,Nat.lt_of_lt_of_le h.2.2.2.2.2.1 g.size,Nat.lt_of_lt_of_le h.2.2.2.2.2.2 g.size⟩
theorem zKY(kind op k a b:Int)(s:ByteArray)(k' a' b':Int)(s':ByteArray)(st tt:ByteArray)(bb:Value)(n x y o1 o2:Int)(cap:Nat)(L:List Qd)(w:World)(ad:Addr)(hfl:∀j u,(flat L)[j]?=some u→w.cell? (ad.add j)=some u)
  (hV:L=[]∨VRow w (.slice (some ad) L.length cap) L) (hn:L.length*40≤140737488351232) (q:Qd) (c:Int)
  (hA:∀W x,G w W→VRow W x L→CG 53 #[.int .i64 op,x] W (.tuple #[q.W,.int .i64 c])) (hB:∀W,G w W→CG 54 #[.int .i64 op,.slice (some ad) L.length cap] W (.tuple #[q.W,.int .i64 c])) :
  CG 20 #[.agg #[I kind,I op,I k,I a,I b,.string s,I k',I a',I b',.string s',.slice (some ad) L.length cap,.string st,.string tt,bb,I n,I x,I y,I o1,I o2]] w (.bool true):=by
 obtain⟨i0,hi,hz0,hz1,hz2⟩:=info_parts zCh;have HA:Hid _:=hA;have HB:Hid _:=hB;have HV:Hid _:=hV;have HFL:Hid _:=hfl;clear hA hB hV hfl;obtain⟨qk,qa,qb,qs⟩:=q
 go_enter func20,ntmps20
 go_wp2_with (at_builtin;refine wpList_append_own _ rfl _ _ 32 rfl (w.alloc (.cells #[I kind,I op,I k,I a,I b,.string s,I k',I a',I b',.string s',.slice (some ad) L.length cap,.string st,.string tt,bb,I n,I x,I y,I o1,I o2] 35)).heap.size 31 i0 V0 4 40 underlying32 hi hz0 hz1 hz2 rfl (by decide) _ _ _ rfl (World.ownsRow_nil _ _ _ _) ad L.length cap (flat L) rfl (zF4 L) ?c1 ?c2 ?c3 ?c4 ?c5 ?_)
 case c1=>
  intro j u hj;have h:=HFL.out j u hj;exact(Below.cell ((G.refl w).alloc _) (World.block_lt_of_cell? w _ h)).trans h
 case c2=>exact zPS L
 case c3=>unfold maxLen;omega
 case c4=>omega
 case c5=>first|exact Nat.le_refl _|simp
 intro x3 w2 hown2 hgrow _;have HG2:Hid (G (w.alloc (.cells #[I kind,I op,I k,I a,I b,.string s,I k',I a',I b',.string s',.slice (some ad) L.length cap,.string st,.string tt,bb,I n,I x,I y,I o1,I o2] 35)) w2):=Below.grown (G.refl _) hgrow (Nat.le_refl _) (fun g hg=>by cases hg)
 have HO2:Hid (w2.ownsRow (w.alloc (.cells #[I kind,I op,I k,I a,I b,.string s,I k',I a',I b',.string s',.slice (some ad) L.length cap,.string st,.string tt,bb,I n,I x,I y,I o1,I o2] 35)).heap.size 31 4 x3 (L++mks 0).length (flat (L++mks 0))):=by
  unfold Hid
  have es:(w.alloc (.cells #[I kind,I op,I k,I a,I b,.string s,I k',I a',I b',.string s',.slice (some ad) L.length cap,.string st,.string tt,bb,I n,I x,I y,I o1,I o2] 35)).heap.size=w.heap.size+1:=by simp
  rw[show L++mks 0=L from List.append_nil L,es]
  first|exact hown2|(rw[Nat.zero_add] at hown2;exact hown2)
 clear hown2 hgrow
 go_wp2
 go_loopw [3,4] (fun yy i W=>∃m:Nat,m≤3∧i=.int .i64 m∧Hid (G (w.alloc (.cells #[I kind,I op,I k,I a,I b,.string s,I k',I a',I b',.string s',.slice (some ad) L.length cap,.string st,.string tt,bb,I n,I x,I y,I o1,I o2] 35)) W)∧Hid (W.ownsRow (w.alloc (.cells #[I kind,I op,I k,I a,I b,.string s,I k',I a',I b',.string s',.slice (some ad) L.length cap,.string st,.string tt,bb,I n,I x,I y,I o1,I o2] 35)).heap.size 31 4 yy (L++mks m).length (flat (L++mks m)))) (fun _ i _=>3-(RowKit.intOf i).toNat)
 case atStart=>exact⟨0,by omega,rfl,HG2.out,HO2.out⟩
 case round=>
  obtain⟨m,hm,rfl,HG,HO⟩:=hrel;clear HG2 HO2
  by_cases hlt:m<3
  ·have hlt3:(m:Int)<3:=by omega
   have hle:(L++mks m).length=L.length+m:=by simp[mks]
   go_wp2_with (at_builtin;refine wpList_append_own _ rfl _ _ 32 rfl (w.alloc (.cells #[I kind,I op,I k,I a,I b,.string s,I k',I a',I b',.string s',.slice (some ad) L.length cap,.string st,.string tt,bb,I n,I x,I y,I o1,I o2] 35)).heap.size 31 i0 V0 4 40 underlying32 hi hz0 hz1 hz2 rfl (by decide) _ _ _ rfl (World.ownsRow.alloc HO.out _) ⟨wr.heap.size,0,none⟩ 1 1 [I 77,I m,I 0,.string E0] rfl rfl ?c1 ?c2 ?c3 ?c4 ?c5 ?_)
   case c1=>
    intro j u hj
    match j,hj with
    | 0,hj=>simp at hj;subst hj;simp[Addr.add]
    | 1,hj=>simp at hj;subst hj;simp[Addr.add]
    | 2,hj=>simp at hj;subst hj;simp[Addr.add]
    | 3,hj=>simp at hj;subst hj;simp[Addr.add]
   case c2=>
    intro u hu;simp at hu
    rcases hu with rfl|rfl|rfl|rfl<;>rfl
   case c3=>unfold maxLen;omega
   case c4=>omega
   case c5=>have:=HG.out.size;simp at this ⊢;omega
   intro x' w3 hown3 hgrow _;have HG3:Hid (G (w.alloc (.cells #[I kind,I op,I k,I a,I b,.string s,I k',I a',I b',.string s',.slice (some ad) L.length cap,.string st,.string tt,bb,I n,I x,I y,I o1,I o2] 35)) w3):=Below.grown (HG.out.alloc _) hgrow (by have:=HG.out.size;simp at this ⊢;omega) (fun g hg=>(World.ownsRow.lt HO.out g hg).1)
   have HO3:Hid (w3.ownsRow (w.alloc (.cells #[I kind,I op,I k,I a,I b,.string s,I k',I a',I b',.string s',.slice (some ad) L.length cap,.string st,.string tt,bb,I n,I x,I y,I o1,I o2] 35)).heap.size 31 4 x' (L++mks (m+1)).length (flat (L++mks (m+1)))):=by
    unfold Hid
    have es:(w.alloc (.cells #[I kind,I op,I k,I a,I b,.string s,I k',I a',I b',.string s',.slice (some ad) L.length cap,.string st,.string tt,bb,I n,I x,I y,I o1,I o2] 35)).heap.size=w.heap.size+1:=by simp
    rw[zJc,←List.append_assoc,List.length_append,zBQ,es,hle];exact hown3
   clear hown3 hgrow
   go_wp2
   go_roundw
   case rel=>exact⟨m+1,by omega,by go_num,HG3.out,HO3.out⟩
   case measure=>simp[RowKit.intOf];omega
  ·have em:m=3:=by omega
   subst em;clear hlt hm;obtain⟨g,cap3,hy,hgb,hcap,HVA⟩:=zMu HO.out;subst hy;have HGw:Hid (G w wr):=((G.refl w).alloc _).trans HG.out;have hE:∀(o:Nat),wr.cell? {block:=w.heap.size,off:=o}=[I kind,I op,I k,I a,I b,.string s,I k',I a',I b',.string s',.slice (some ad) L.length cap,.string st,.string tt,bb,I n,I x,I y,I o1,I o2][o]?:=G.cells HG.out (fun o=>by simp) (by simp)
   have hzE:w.heap.size<wr.heap.size:=by have:=HG.out.size;simp at this;omega
   have hl1:(0:Int)≤(L.length:Int):=by omega
   have hl2:(L.length:Int)≤(cap3:Int):=by omega
   have HVP:Hid (VRow wr (.slice (some ⟨g,0,none⟩) L.length cap3) L):=zHm HVA (by omega);have HVA':Hid _:=HVA;clear HG HO HVA;generalize wr=w3 at HGw hE hzE HVP HVA'⊢
   go_wp2_with fail
   refine(HA.out _ _ HGw.out HVP.out).mono ?_;rintro e w5 ⟨rfl,hb5⟩;have HG5:Hid (G w3 w5):=hb5;have hE5:∀(o:Nat),w5.cell? {block:=w.heap.size,off:=o}=[I kind,I op,I k,I a,I b,.string s,I k',I a',I b',.string s',.slice (some ad) L.length cap,.string st,.string tt,bb,I n,I x,I y,I o1,I o2][o]?:=G.cells hb5 hE hzE
   have hz5:w.heap.size<w5.heap.size:=by have:=hb5.size;omega
   clear hb5 hE
   go_wp2_with fail
   refine(HB.out _ ((HGw.out.trans HG5.out).alloc _)).mono ?_;rintro e w6 ⟨rfl,hb6⟩;have HG6:Hid (G w3 w6):=(HG5.out.alloc _).trans hb6;have hE6:∀(o:Nat),w6.cell? {block:=w.heap.size,off:=o}=[I kind,I op,I k,I a,I b,.string s,I k',I a',I b',.string s',.slice (some ad) L.length cap,.string st,.string tt,bb,I n,I x,I y,I o1,I o2][o]?:=G.cells hb6 (G.cells ((G.refl w5).alloc _) hE5 hz5) (by simp;omega);have hQ6:∀(o:Nat),w6.cell? {block:=w5.heap.size,off:=o}=[I qk,I qa,I qb,Value.string qs][o]?:=G.cells hb6 (fun o=>by simp) (by simp)
   have hz6:w5.heap.size<w6.heap.size:=by have:=hb6.size;simp at this;omega
   clear hb6 hE5
   have HW8:Hid (W8P w w3 w5.heap.size w6.heap.size (fun o=>[I kind,I op,I k,I a,I b,.string s,I k',I a',I b',.string s',.slice (some ad) L.length cap,.string st,.string tt,bb,I n,I x,I y,I o1,I o2][o]?) qk qa qb qs (w6.alloc (.cells #[I qk,I qa,I qb,.string qs] 31))):=
    ⟨HG6.out.alloc _,G.cells ((G.refl w6).alloc _) hE6 (by omega),G.cells ((G.refl w6).alloc _) hQ6 hz6,fun o=>by simp,by simp;omega,by simp;omega,by simp⟩
   clear hE6 hQ6 HG6
   go_wp2
   generalize (w6.alloc (.cells #[I qk,I qa,I qb,.string qs] 31))=W8 at HW8⊢;generalize w5.heap.size=B6 at HW8⊢;generalize w6.heap.size=B8 at HW8⊢;clear hz6 hz5 HG5
   go_loopw [10] (fun i W=>∃m:Nat,m≤L.length∧i=.int .i64 m∧Hid (W8P w w3 B6 B8 (fun o=>[I kind,I op,I k,I a,I b,.string s,I k',I a',I b',.string s',.slice (some ad) L.length cap,.string st,.string tt,bb,I n,I x,I y,I o1,I o2][o]?) qk qa qb qs W)) (fun i _=>L.length-(RowKit.intOf i).toNat)
   case atStart=>exact⟨0,by omega,rfl,HW8.out⟩
   case round=>
    obtain⟨m,hm,rfl,HW⟩:=hrel;clear HW8
    by_cases hlt:m<L.length
    ·obtain⟨q,hq⟩:∃q,L[m]?=some q:=⟨L[m],List.getElem?_eq_getElem hlt⟩
     obtain⟨b0,off,ea⟩:∃b off,(some ad)=some ⟨b,off,none⟩:=by
      rcases HV.out with hn|⟨h,hn⟩|⟨b,off,cap2,h,_⟩
      iterate 2
       ·rw[hn] at hlt;exact absurd hlt (Nat.not_lt_zero _)
      ·injection h with h _ _;exact⟨b,off,h⟩
     injection ea with ea
     subst ea
     have hVx:VRow w (.slice (some ⟨b0,off,none⟩) L.length cap) L:=by
      rcases HV.out with hn|h
      ·rw[hn] at hlt;exact absurd hlt (Nat.not_lt_zero _)
      ·exact h
     obtain⟨hG,hE,_,_,_,_,_⟩:=HW.out;obtain⟨p0,p1,p2,p3⟩:=zBa (VRow.G HVP.out hG) hq;obtain⟨r0,r1,r2,r3⟩:=zBa (VRow.G hVx (HGw.out.trans hG)) hq;simp only[Nat.zero_add] at p0 p1 p2 p3
     have hlt3:(m:Int)<(L.length:Int):=by omega
     obtain⟨k1,a1,b1,s1⟩:=q;simp only at p0 p1 p2 p3 r0 r1 r2 r3;clear hVx hG hq
     go_wp2
     go_quiet (fail)
     go_wp2
     go_roundw
     case rel=>exact⟨m+1,by omega,by go_num,W8P.keep (by repeat(first|exact G.refl _|refine G.drewK ?_ _|refine G.drew ?_)) HW.out⟩
     case measure=>simp[RowKit.intOf];omega
    ·clear hm
     go_wp2
     go_loopw [11] (fun i W=>∃m:Nat,m≤3∧i=.int .i64 m∧Hid (W8P w w3 B6 B8 (fun o=>[I kind,I op,I k,I a,I b,.string s,I k',I a',I b',.string s',.slice (some ad) L.length cap,.string st,.string tt,bb,I n,I x,I y,I o1,I o2][o]?) qk qa qb qs W)) (fun i _=>3-(RowKit.intOf i).toNat)
     case atStart=>exact⟨0,by omega,rfl,HW.out⟩
     case round=>
      obtain⟨m2,hm2,rfl,HW2⟩:=hrel;clear HW
      by_cases hlt2:m2<3
      ·have hq:(L++mks 3)[L.length+m2]?=some (77,(m2:Int),0,E0):=by
        rw[List.getElem?_append_right (by omega),Nat.add_sub_cancel_left];simp[mks,hlt2]
       obtain⟨hG,hE,_,_,_,_,_⟩:=HW2.out;obtain⟨p0,p1,p2,p3⟩:=zBa (VRow.G HVA'.out hG) hq;simp only[Nat.zero_add] at p0 p1 p2 p3
       have i1:(m2:Int)<3:=by omega
       have i2:(L.length:Int)+(m2:Int)<(L.length:Int)+3:=by omega
       clear hG hq
       go_wp2
       go_roundw
       case rel=>exact⟨m2+1,by omega,by go_num,W8P.keep (by repeat(first|exact G.refl _|refine G.drew ?_)) HW2.out⟩
       case measure=>simp[RowKit.intOf];omega
      ·obtain⟨hG,hE,h6,h8,_,_,_⟩:=HW2.out
       have gE:G w wr:=HGw.out.trans hG;clear hG hE
       go_wp2
       go_ret;exact⟨rfl,gE⟩
end
section
open Go.RowKit Go.Lib Go.Shelf
attribute [local go_sem] eqV neqV
theorem zPs{w:World}{base:Nat}{e:TypeId}{y:Value}(h:w.ownsRow base e 4 y (mks 3).length (flat (mks 3))) :
  ∃g cap,y=.slice (some ⟨g,0,none⟩) 3 cap∧base≤g∧3≤cap∧VRow w (.slice (some ⟨g,0,none⟩) 3 cap) (mks 3):=by
 simpa using zMu (L:=[]) (by simpa using h)
theorem zKZ(kind op k a b:Int)(s:ByteArray)(k' a' b':Int)(s':ByteArray)(st tt:ByteArray)(bb:Value)(n x y o1 o2:Int)(w:World)
  (q:Qd) (c:Int)
  (hA:∀W x,G w W→VRow W x []→CG 53 #[.int .i64 op,x] W (.tuple #[q.W,.int .i64 c])) (hB:∀W,G w W→CG 54 #[.int .i64 op,.slice none 0 0] W (.tuple #[q.W,.int .i64 c])) :
  CG 20 #[.agg #[I kind,I op,I k,I a,I b,.string s,I k',I a',I b',.string s',.slice none 0 0,.string st,.string tt,bb,I n,I x,I y,I o1,I o2]] w (.bool true):=by
 obtain⟨i0,hi,hz0,hz1,hz2⟩:=info_parts zCh;have HA:Hid _:=hA;have HB:Hid _:=hB;clear hA hB;obtain⟨qk,qa,qb,qs⟩:=q
 go_enter func20,ntmps20
 go_wp2_with (at_builtin;refine wpList_append_own_none rfl _ _ 32 rfl 0 31 i0 4 underlying32 hi _ 0 [] rfl (World.ownsRow_nil _ _ _ _) rfl ?_)
 have HG2:Hid (G (w.alloc (.cells #[I kind,I op,I k,I a,I b,.string s,I k',I a',I b',.string s',.slice none 0 0,.string st,.string tt,bb,I n,I x,I y,I o1,I o2] 35)) (w.alloc (.cells #[I kind,I op,I k,I a,I b,.string s,I k',I a',I b',.string s',.slice none 0 0,.string st,.string tt,bb,I n,I x,I y,I o1,I o2] 35))):=G.refl _
 have HO2:Hid ((w.alloc (.cells #[I kind,I op,I k,I a,I b,.string s,I k',I a',I b',.string s',.slice none 0 0,.string st,.string tt,bb,I n,I x,I y,I o1,I o2] 35)).ownsRow (w.alloc (.cells #[I kind,I op,I k,I a,I b,.string s,I k',I a',I b',.string s',.slice none 0 0,.string st,.string tt,bb,I n,I x,I y,I o1,I o2] 35)).heap.size 31 4 (.slice none 0 0) (mks 0).length (flat (mks 0))):=by exact World.ownsRow_nil _ _ _ _
 go_wp2
 go_loopw [3,4] (fun yy i W=>∃m:Nat,m≤3∧i=.int .i64 m∧Hid (G (w.alloc (.cells #[I kind,I op,I k,I a,I b,.string s,I k',I a',I b',.string s',.slice none 0 0,.string st,.string tt,bb,I n,I x,I y,I o1,I o2] 35)) W)∧Hid (W.ownsRow (w.alloc (.cells #[I kind,I op,I k,I a,I b,.string s,I k',I a',I b',.string s',.slice none 0 0,.string st,.string tt,bb,I n,I x,I y,I o1,I o2] 35)).heap.size 31 4 yy (mks m).length (flat (mks m)))) (fun _ i _=>3-(RowKit.intOf i).toNat)
 case atStart=>exact⟨0,by omega,rfl,HG2.out,HO2.out⟩
 case round=>
  obtain⟨m,hm,rfl,HG,HO⟩:=hrel;clear HG2 HO2
  by_cases hlt:m<3
  ·have hlt3:(m:Int)<3:=by omega
   have hle:(mks m).length=m:=by simp[mks]
   go_wp2_with (at_builtin;refine wpList_append_own _ rfl _ _ 32 rfl (w.alloc (.cells #[I kind,I op,I k,I a,I b,.string s,I k',I a',I b',.string s',.slice none 0 0,.string st,.string tt,bb,I n,I x,I y,I o1,I o2] 35)).heap.size 31 i0 V0 4 40 underlying32 hi hz0 hz1 hz2 rfl (by decide) _ _ _ rfl (World.ownsRow.alloc HO.out _) ⟨wr.heap.size,0,none⟩ 1 1 [I 77,I m,I 0,.string E0] rfl rfl ?c1 ?c2 ?c3 ?c4 ?c5 ?_)
   case c1=>
    intro j u hj
    match j,hj with
    | 0,hj=>simp at hj;subst hj;simp[Addr.add]
    | 1,hj=>simp at hj;subst hj;simp[Addr.add]
    | 2,hj=>simp at hj;subst hj;simp[Addr.add]
    | 3,hj=>simp at hj;subst hj;simp[Addr.add]
   case c2=>
    intro u hu;simp at hu
    rcases hu with rfl|rfl|rfl|rfl<;>rfl
   case c3=>unfold maxLen;omega
   case c4=>omega
   case c5=>have:=HG.out.size;simp at this ⊢;omega
   intro x' w3 hown3 hgrow _;have HG3:Hid (G (w.alloc (.cells #[I kind,I op,I k,I a,I b,.string s,I k',I a',I b',.string s',.slice none 0 0,.string st,.string tt,bb,I n,I x,I y,I o1,I o2] 35)) w3):=Below.grown (HG.out.alloc _) hgrow (by have:=HG.out.size;simp at this ⊢;omega) (fun g hg=>(World.ownsRow.lt HO.out g hg).1)
   have HO3:Hid (w3.ownsRow (w.alloc (.cells #[I kind,I op,I k,I a,I b,.string s,I k',I a',I b',.string s',.slice none 0 0,.string st,.string tt,bb,I n,I x,I y,I o1,I o2] 35)).heap.size 31 4 x' (mks (m+1)).length (flat (mks (m+1)))):=by
    unfold Hid
    have es:(w.alloc (.cells #[I kind,I op,I k,I a,I b,.string s,I k',I a',I b',.string s',.slice none 0 0,.string st,.string tt,bb,I n,I x,I y,I o1,I o2] 35)).heap.size=w.heap.size+1:=by simp
    rw[zJc,List.length_append,zBQ,es,hle];exact hown3
   clear hown3 hgrow
   go_wp2
   go_roundw
   case rel=>exact⟨m+1,by omega,by go_num,HG3.out,HO3.out⟩
   case measure=>simp[RowKit.intOf];omega
  ·have em:m=3:=by omega
   subst em;clear hlt hm;obtain⟨g,cap3,hy,hgb,hcap,HVA⟩:=zPs HO.out;subst hy;have HGw:Hid (G w wr):=((G.refl w).alloc _).trans HG.out;have hE:∀(o:Nat),wr.cell? {block:=w.heap.size,off:=o}=[I kind,I op,I k,I a,I b,.string s,I k',I a',I b',.string s',.slice none 0 0,.string st,.string tt,bb,I n,I x,I y,I o1,I o2][o]?:=G.cells HG.out (fun o=>by simp) (by simp)
   have hzE:w.heap.size<wr.heap.size:=by have:=HG.out.size;simp at this;omega
   have hl1:(0:Int)≤(cap3:Int):=by omega
   have hl2:0≤cap3:=Nat.zero_le _;have HVP:Hid (VRow wr (.slice (some ⟨g,0,none⟩) 0 cap3) []):=.inr ⟨g,0,cap3,rfl,Nat.zero_le _,fun i q hi=>by simp at hi⟩;have HVA':Hid _:=HVA;clear HG HO HVA;generalize wr=w3 at HGw hE hzE HVP HVA'⊢
   go_wp2_with fail
   refine(HA.out _ _ HGw.out HVP.out).mono ?_;rintro e w5 ⟨rfl,hb5⟩;have HG5:Hid (G w3 w5):=hb5;have hE5:∀(o:Nat),w5.cell? {block:=w.heap.size,off:=o}=[I kind,I op,I k,I a,I b,.string s,I k',I a',I b',.string s',.slice none 0 0,.string st,.string tt,bb,I n,I x,I y,I o1,I o2][o]?:=G.cells hb5 hE hzE
   have hz5:w.heap.size<w5.heap.size:=by have:=hb5.size;omega
   clear hb5 hE
   go_wp2_with fail
   refine(HB.out _ ((HGw.out.trans HG5.out).alloc _)).mono ?_;rintro e w6 ⟨rfl,hb6⟩;have HG6:Hid (G w3 w6):=(HG5.out.alloc _).trans hb6;have hE6:∀(o:Nat),w6.cell? {block:=w.heap.size,off:=o}=[I kind,I op,I k,I a,I b,.string s,I k',I a',I b',.string s',.slice none 0 0,.string st,.string tt,bb,I n,I x,I y,I o1,I o2][o]?:=G.cells hb6 (G.cells ((G.refl w5).alloc _) hE5 hz5) (by simp;omega);have hQ6:∀(o:Nat),w6.cell? {block:=w5.heap.size,off:=o}=[I qk,I qa,I qb,Value.string qs][o]?:=G.cells hb6 (fun o=>by simp) (by simp)
   have hz6:w5.heap.size<w6.heap.size:=by have:=hb6.size;simp at this;omega
   clear hb6 hE5
   have HW8:Hid (W8P w w3 w5.heap.size w6.heap.size (fun o=>[I kind,I op,I k,I a,I b,.string s,I k',I a',I b',.string s',.slice none 0 0,.string st,.string tt,bb,I n,I x,I y,I o1,I o2][o]?) qk qa qb qs (w6.alloc (.cells #[I qk,I qa,I qb,.string qs] 31))):=
    ⟨HG6.out.alloc _,G.cells ((G.refl w6).alloc _) hE6 (by omega),G.cells ((G.refl w6).alloc _) hQ6 hz6,fun o=>by simp,by simp;omega,by simp;omega,by simp⟩
   clear hE6 hQ6 HG6
   go_wp2
   generalize (w6.alloc (.cells #[I qk,I qa,I qb,.string qs] 31))=W8 at HW8⊢;generalize w5.heap.size=B6 at HW8⊢;generalize w6.heap.size=B8 at HW8⊢;clear hz6 hz5 HG5
   go_loopw [10] (fun i W=>∃m:Nat,m≤0∧i=.int .i64 m∧Hid (W8P w w3 B6 B8 (fun o=>[I kind,I op,I k,I a,I b,.string s,I k',I a',I b',.string s',.slice none 0 0,.string st,.string tt,bb,I n,I x,I y,I o1,I o2][o]?) qk qa qb qs W)) (fun i _=>0-(RowKit.intOf i).toNat)
   case atStart=>exact⟨0,by omega,rfl,HW8.out⟩
   case round=>
    obtain⟨m,hm,rfl,HW⟩:=hrel;clear HW8
    by_cases hlt:m<0
    ·exact absurd hlt (Nat.not_lt_zero _)
    ·clear hm
     go_wp2
     go_loopw [11] (fun i W=>∃m:Nat,m≤3∧i=.int .i64 m∧Hid (W8P w w3 B6 B8 (fun o=>[I kind,I op,I k,I a,I b,.string s,I k',I a',I b',.string s',.slice none 0 0,.string st,.string tt,bb,I n,I x,I y,I o1,I o2][o]?) qk qa qb qs W)) (fun i _=>3-(RowKit.intOf i).toNat)
     case atStart=>exact⟨0,by omega,rfl,HW.out⟩
     case round=>
      obtain⟨m2,hm2,rfl,HW2⟩:=hrel;clear HW
      by_cases hlt2:m2<3
      ·have hq:(mks 3)[m2]?=some (77,(m2:Int),0,E0):=by
        simp[mks,hlt2]
       obtain⟨hG,hE,_,_,_,_,_⟩:=HW2.out;obtain⟨p0,p1,p2,p3⟩:=zBa (VRow.G HVA'.out hG) hq;simp only[Nat.zero_add] at p0 p1 p2 p3
       have i1:(m2:Int)<3:=by omega
       have i2:m2<3:=hlt2;clear hG hq
       go_wp2
       go_roundw
       case rel=>exact⟨m2+1,by omega,by go_num,W8P.keep (by repeat(first|exact G.refl _|refine G.drew ?_)) HW2.out⟩
       case measure=>simp[RowKit.intOf];omega
      ·obtain⟨hG,hE,h6,h8,_,_,_⟩:=HW2.out
       have gE:G w wr:=HGw.out.trans hG;clear hG hE
       go_wp2
       go_ret;exact⟨rfl,gE⟩
end
section
open Go.RowKit Go.PlainAid Go.Lib Go.Shelf
theorem zNx(W:World)(hT:Rdy W)(e:Ent)(h:VsOk W e.vs)(w:World)(g0:G W w):CG 20 #[e.V] w (.bool true):=by
 obtain⟨kind,op,k,a,b,s,k',a',b',s',vs,st,tt,bb,n,x,y,o1,o2⟩:=e;simp only at h⊢;obtain⟨ao,cap,L,rfl,hV,hL,hc⟩:=zRH h;obtain⟨q,c,hA,hB⟩:=zNy op ao cap L W hT hV hL
 rcases hc with ⟨rfl,rfl,rfl⟩|⟨ad,rfl,hfl⟩
 ·exact zKZ kind op k a b s k' a' b' s' st tt bb n x y o1 o2 w q c (fun W1 x g1 h=>hA W1 x (g0.trans g1) h) (fun W1 g1=>hB W1 (g0.trans g1))
 ·exact zKY kind op k a b s k' a' b' s' st tt bb n x y o1 o2 cap L w ad (fun j u hj=>(Below.cell g0 (World.block_lt_of_cell? W _ (hfl j u hj))).trans (hfl j u hj)) (hV.imp id fun h=>h.G g0) (Nat.le_trans hL.1 zFR) q c (fun W1 x g1 h=>hA W1 x (g0.trans g1) h) (fun W1 g1=>hB W1 (g0.trans g1))
theorem zS6(W:World)(hT:Rdy W)(e:Ent)(hk:e.kind=5)(h:VsOk W e.vs)(w:World)(g0:G W w):CG 7 #[e.V] w (.bool true):=by
 have HF:Hid _:=zNx W hT e h;obtain⟨kind,op,k,a,b,s,k',a',b',s',vs,st,tt,bb,n,x,y,o1,o2⟩:=e;simp only at hk;subst hk;clear h hT
 have hr:(w.alloc (.cells #[I 5,I op,I k,I a,I b,.string s,I k',I a',I b',.string s',vs,.string st,.string tt,bb,I n,I x,I y,I o1,I o2] 35)).rangeAt w.heap.size 0 [I 5,I op,I k,I a,I b,.string s,I k',I a',I b',.string s',vs,.string st,.string tt,bb,I n,I x,I y,I o1,I o2]:=fun j v hv=>by rw[Nat.zero_add];simpa using hv
 go_enter func7,ntmps7
 go_wp2_with (first|(refine wpList_load_mid rfl 35 _ rfl w.heap.size 0 rfl [I 5,I op,I k,I a,I b,.string s,I k',I a',I b',.string s',vs,.string st,.string tt,bb,I n,I x,I y,I o1,I o2] _ hr underlying35 rfl (by kernel_rfl) ?_)|(go_at_call 20;refine(HF.out _ (g0.alloc _)).mono ?_;rintro e w1 ⟨rfl,hb1⟩))
 go_wp2
 go_ret;exact⟨rfl,((G.refl w).alloc _).trans hb1⟩
theorem zK0(W:World)(hT:Rdy W)(e:Ent)(h:zDn W e)(h1:5≤e.kind)(h2:e.kind≤5)(w':World)(g:G W w'):Calls prog 7 #[e.V] w' fun r w''=>r=.returned (.bool true)∧G w' w'':=
 zS6 W hT e (by omega) h.vs w' g
end
end Go.Proofs.YthmdjhfbhbheeaaGreatDoor
