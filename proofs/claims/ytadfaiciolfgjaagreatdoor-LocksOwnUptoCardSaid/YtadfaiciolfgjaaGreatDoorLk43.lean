import Derived.Shelf.SlSortCmp.WholeK
import Derived.Sort.OwnSortedInts
import Derived.Test.YtadfaiciolfgjaaGreatDoorLk39
import Derived.Test.YtadfaiciolfgjaaGreatDoorShSf
namespace Go.Proofs.YtadfaiciolfgjaaGreatDoor
open Go.Proofs.Tryz
set_option maxHeartbeats 1000000
set_option maxRecDepth 100000
section
open Go.RowKit Go.Sort
theorem cI_lt(x y:Int):cI x y<0↔x<y:=by
 unfold cI
 split
 ·simp_all
 ·split<;>simp_all
theorem cI_eq(x y:Int):cI x y=0↔x=y:=by
 unfold cI
 split
 ·simp;omega
 ·split
  iterate 2
   ·simp;omega
def bLt(a b:List UInt8):Prop:=Lib.compareBytes a b<0
theorem cB_eq:∀(a b:List UInt8),Lib.compareBytes a b=0↔a=b
 | [],[]=>by simp[Lib.compareBytes]
 | [],_::_=>by simp[Lib.compareBytes]
 | _::_,[]=>by simp[Lib.compareBytes]
 | x::a,y::b=>by
  have ih:=cB_eq a b
  unfold Lib.compareBytes
  by_cases h1:x<y
  ·rw[if_pos h1]
   have:x≠y:=fun e=>by rw[e] at h1;exact UInt8.lt_irrefl _ h1
   simp[this]
  ·rw[if_neg h1]
   by_cases h2:y<x
   ·rw[if_pos h2]
    have:x≠y:=fun e=>by rw[e] at h2;exact UInt8.lt_irrefl _ h2
    simp[this]
   ·rw[if_neg h2,ih]
    have:x=y:=UInt8.le_antisymm (UInt8.not_lt.1 h2) (UInt8.not_lt.1 h1)
    simp[this]
theorem bLt_cons(x y:UInt8)(a b:List UInt8):bLt (x::a) (y::b)↔x<y∨(x=y∧bLt a b):=by
 unfold bLt
 rw[Lib.compareBytes]
 by_cases h1:x<y
 ·rw[if_pos h1];simp[h1]
 ·rw[if_neg h1]
  by_cases h2:y<x
  ·rw[if_pos h2]
   have:x≠y:=fun e=>by rw[e] at h2;exact UInt8.lt_irrefl _ h2
   simp[h1,this]
  ·rw[if_neg h2]
   have:x=y:=UInt8.le_antisymm (UInt8.not_lt.1 h2) (UInt8.not_lt.1 h1)
   simp[this,UInt8.lt_irrefl]
theorem bLt_nil(a:List UInt8):¬bLt a []:=by
 cases a<;>simp[bLt,Lib.compareBytes]
theorem bLt_trans:∀(a b c:List UInt8),bLt a b→bLt b c→bLt a c
 | _,[],_,h1,_=>absurd h1 (bLt_nil _)
 | _,_::_,[],_,h2=>absurd h2 (bLt_nil _)
 | [],_::_,_::_,_,_=>by simp[bLt,Lib.compareBytes]
 | x::a,y::b,z::c,h1,h2=>by
  rw[bLt_cons] at h1 h2⊢
  rcases h1 with h1|⟨rfl,h1⟩
  ·rcases h2 with h2|⟨rfl,h2⟩
   ·exact .inl (UInt8.lt_trans h1 h2)
   ·exact .inl h1
  ·rcases h2 with h2|⟨rfl,h2⟩
   ·exact .inl h2
   ·exact .inr ⟨rfl,bLt_trans a b c h1 h2⟩
theorem bLt_tot:∀(a b:List UInt8),bLt a b∨a=b∨bLt b a
 | [],[]=>.inr (.inl rfl)
 | [],_::_=>.inl (by simp[bLt,Lib.compareBytes])
 | _::_,[]=>.inr (.inr (by simp[bLt,Lib.compareBytes]))
 | x::a,y::b=>by
  rw[bLt_cons,bLt_cons]
  by_cases h1:x<y
  ·exact .inl (.inl h1)
  by_cases h2:y<x
  ·exact .inr (.inr (.inl h2))
  have e:x=y:=UInt8.le_antisymm (UInt8.not_lt.1 h2) (UInt8.not_lt.1 h1)
  subst e
  rcases bLt_tot a b with h|h|h
  ·exact .inl (.inr ⟨rfl,h⟩)
  ·exact .inr (.inl (by rw[h]))
  ·exact .inr (.inr (.inr ⟨rfl,h⟩))
def rLt(a b:Rs):Prop:=a.lv<b.lv∨(a.lv=b.lv∧(bLt a.lb.data.toList b.lb.data.toList∨(a.lb=b.lb∧a.id<b.id)))
theorem lb_ext{a b:ByteArray}(h:a.data.toList=b.data.toList):a=b:=by
 cases a;cases b;simp at h;rw[h]
theorem io_lt(a b:Rs):io a b<0↔rLt a b:=by
 unfold io rLt
 by_cases h1:cI a.lv b.lv=0
 ·rw[if_neg (by simp[h1])]
  have e1:=(cI_eq _ _).1 h1
  by_cases h2:Lib.compareBytes a.lb.data.toList b.lb.data.toList=0
  ·rw[if_neg (by simp[h2]),cI_lt]
   have e2:=lb_ext ((cB_eq _ _).1 h2)
   have n2:¬bLt a.lb.data.toList b.lb.data.toList:=by unfold bLt;omega
   constructor
   ·intro h;exact .inr ⟨e1,.inr ⟨e2,h⟩⟩
   ·rintro(h|⟨-,h|⟨-,h⟩⟩)
    ·omega
    ·exact absurd h n2
    ·exact h
  ·rw[if_pos h2]
   have n2:¬a.lb=b.lb:=fun e=>h2 ((cB_eq _ _).2 (by rw[e]))
   constructor
   ·intro h;exact .inr ⟨e1,.inl h⟩
   ·rintro(h|⟨-,h|⟨h,-⟩⟩)
    ·omega
    ·exact h
    ·exact absurd h n2
 ·rw[if_pos h1,cI_lt]
  have n1:¬a.lv=b.lv:=fun e=>h1 ((cI_eq _ _).2 e)
  constructor
  ·intro h;exact .inl h
  ·rintro(h|⟨h,-⟩)
   ·exact h
   ·exact absurd h n1
theorem rLt_irrefl(a:Rs):¬rLt a a:=by
 have n:¬bLt a.lb.data.toList a.lb.data.toList:=by
  unfold bLt
  rw[(cB_eq _ _).2 rfl];omega
 rintro(h|⟨-,h|⟨-,h⟩⟩)
 ·omega
 ·exact n h
 ·omega
theorem rLt_trans{a b c:Rs}(h1:rLt a b)(h2:rLt b c):rLt a c:=by
 rcases h1 with h1|⟨e1,h1⟩
 ·rcases h2 with h2|⟨e2,-⟩
  iterate 2
   ·exact .inl (by omega)
 ·rcases h2 with h2|⟨e2,h2⟩
  ·exact .inl (by omega)
  ·refine .inr ⟨by omega,?_⟩
   rcases h1 with h1|⟨f1,h1⟩
   ·rcases h2 with h2|⟨f2,h2⟩
    ·exact .inl (bLt_trans _ _ _ h1 h2)
    ·exact .inl (by rw[←f2];exact h1)
   ·rcases h2 with h2|⟨f2,h2⟩
    ·exact .inl (by rw[f1];exact h2)
    ·exact .inr ⟨f1.trans f2,by omega⟩
theorem rLt_tot(a b:Rs):rLt a b∨a=b∨rLt b a:=by
 unfold rLt
 by_cases h1:a.lv<b.lv
 ·exact .inl (.inl h1)
 by_cases h2:b.lv<a.lv
 ·exact .inr (.inr (.inl h2))
 have e1:a.lv=b.lv:=by omega
 rcases bLt_tot a.lb.data.toList b.lb.data.toList with h|h|h
 ·exact .inl (.inr ⟨e1,.inl h⟩)
 ·have e2:=lb_ext h
  by_cases h3:a.id<b.id
  ·exact .inl (.inr ⟨e1,.inr ⟨e2,h3⟩⟩)
  by_cases h4:b.id<a.id
  ·exact .inr (.inr (.inr ⟨e1.symm,.inr ⟨e2.symm,h4⟩⟩))
  ·refine .inr (.inl ?_)
   have e3:a.id=b.id:=by omega
   cases a;cases b;simp_all
 ·exact .inr (.inr (.inr ⟨e1.symm,.inl h⟩))
theorem io_swo:SWO (ltOf io):=by
 refine⟨fun x=>?_,fun x y z h1 h2=>?_,fun x y z h1 h2=>?_⟩
 ·exact decide_eq_false (fun h=>rLt_irrefl x ((io_lt _ _).1 h))
 ·have h1:=(io_lt _ _).1 (of_decide_eq_true h1)
  have h2:=(io_lt _ _).1 (of_decide_eq_true h2)
  exact decide_eq_true ((io_lt _ _).2 (rLt_trans h1 h2))
 ·have h1:¬rLt x y:=fun h=>of_decide_eq_false h1 ((io_lt _ _).2 h)
  have h2:¬rLt y z:=fun h=>of_decide_eq_false h2 ((io_lt _ _).2 h)
  refine decide_eq_false (fun h=>?_)
  have h:=(io_lt _ _).1 h
  rcases rLt_tot x y with g|g|g
  ·exact h1 g
  ·rw[g] at h;exact h2 h
  ·exact h2 (rLt_trans g h)
theorem ins_zero(v fv:Value)(w:World):Calls prog 110 #[v,I 0,I 0,fv] w fun e w'=>e=.returned (.tuple #[])∧w'=w:=by
 go_enter func110,ntmps110
 go_wp2
 go_loopw [8] (fun i wr=>i=I 1∧wr=w) (fun _ _=>0)
 case atStart=>exact⟨rfl,rfl⟩
 case round=>
  obtain⟨rfl,rfl⟩:=hrel
  go_wp2
  go_end0
  exact⟨rfl,rfl⟩
theorem len64_zero(w:World):Calls prog 119 #[.int .u64 0] w fun e w'=>(∃k,e=.returned (I k))∧w'=w:=by
 go_enter func119,ntmps119
 go_wp2
 go_ret
 exact⟨⟨_,rfl⟩,rfl⟩
theorem len_zero(w:World):Calls prog 95 #[.int .u64 0] w fun e w'=>(∃k,e=.returned (I k))∧w'=w:=by
 have K:=hide (len64_zero w)
 go_enter func95,ntmps95
 go_wp2_with (first|(go_at_call 119;refine K.out.mono ?_;rintro e w' ⟨⟨k,rfl⟩,rfl⟩)|fail)
 go_ret
 exact⟨⟨_,rfl⟩,rfl⟩
theorem pdq_zero(v fv:Value)(k:Int)(w:World):Calls prog 94 #[v,I 0,I 0,I k,fv] w fun e w'=>e=.returned (.tuple #[])∧w'=w:=by
 have K:=hide (ins_zero v fv w)
 go_enter func94,ntmps94
 go_wp2
 go_loopw [1,2,3] (fun a b c wr=>a=I 0∧b=I 0∧c=I k∧wr=w) (fun _ _ _ _=>0)
 case atStart=>exact⟨rfl,rfl,rfl,rfl⟩
 case round=>
  obtain⟨rfl,rfl,rfl,rfl⟩:=hrel
  go_wp2_with (first|(go_at_call 110;refine K.out.mono ?_;rintro e w' ⟨rfl,rfl⟩)|fail)
  refine bodyPost_ret (results_none rfl _ _ _) rfl ?_
  exact⟨rfl,rfl⟩
theorem sortF_zero(a:Option Addr)(c:Nat)(fv:Value)(w:World):Calls prog 65 #[.slice a 0 c,fv] w fun e w'=>e=.returned (.tuple #[])∧w'=w:=by
 have K:=hide (len_zero w)
 have K2:=hide (fun k=>pdq_zero (.slice a 0 c) fv k w)
 go_enter func65,ntmps65
 go_wp2_with (first|(go_at_call 95;refine K.out.mono ?_;rintro e w' ⟨⟨k,rfl⟩,rfl⟩)|(go_at_call 94;refine(K2.out k).mono ?_;rintro e w' ⟨rfl,rfl⟩)|fail)
 go_end0
 exact⟨rfl,rfl⟩
end
section
open Go.RowKit Go.Sort Go.Shelf
def rcel(r:Rs):List Value:=[I r.lv,.string r.lb,I r.id]
def rc(rs:List Rs):List Value:=rs.flatMap rcel
theorem rc_len(rs:List Rs):(rc rs).length=rs.length*3:=by
 induction rs with
 | nil=>rfl
 | cons r rs ih=>simp only[rc,List.flatMap_cons,List.length_append,List.length_cons] at *;rw[ih];simp[rcel];omega
theorem rc_snoc(rs:List Rs)(r:Rs):rc (rs++[r])=rc rs++rcel r:=by simp[rc]
theorem rc_at:∀(rs:List Rs) (i:Nat) (r:Rs),rs[i]?=some r→∀d v,(rcel r)[d]?=some v→(rc rs)[i*3+d]?=some v
 | [],_,_,h,_,_,_=>by simp at h
 | r0::rs,0,r,h,d,v,hv=>by
  simp at h;subst h
  have hd:d<(rcel r0).length:=(List.getElem?_eq_some_iff.1 hv).1
  show(rcel r0++rc rs)[0*3+d]?=some v
  rw[Nat.zero_mul,Nat.zero_add,List.getElem?_append_left hd]
  exact hv
 | r0::rs,i+1,r,h,d,v,hv=>by
  have h2:=rc_at rs i r (by simpa using h) d v hv
  show(rcel r0++rc rs)[(i+1)*3+d]?=some v
  rw[List.getElem?_append_right (by simp[rcel];omega),show(i+1)*3+d-(rcel r0).length=i*3+d by simp[rcel];omega]
  exact h2
theorem rc_get [Inhabited Rs](rs:List Rs)(j:Nat)(hj:j<rs.length*3):(rc rs)[j]?=some ((rcel rs.toArray[j/3]!)[j%3]!):=by
 have hi:j/3<rs.length:=by omega
 have hm:j%3<3:=Nat.mod_lt _ (by decide)
 have e1:rs.toArray[j/3]! = rs[j/3]:=by simp[hi]
 have h:=rc_at rs (j/3) rs[j/3] (List.getElem?_eq_getElem hi) (j%3) ((rcel rs[j/3])[j%3]!) (by
  rw[getElem!_pos _ _ (by simpa [rcel] using hm),List.getElem?_eq_getElem (by simpa [rcel] using hm)])
 rw[show j/3*3+j%3=j by omega] at h
 rw[e1];exact h
theorem flat_rc [Inhabited Rs](rs:List Rs):(flatK rcel 3 rs.toArray).toList=rc rs:=by
 apply List.ext_getElem?
 intro j
 by_cases hj:j<rs.length*3
 ·have hs:j<(flatK rcel 3 rs.toArray).size:=by simpa using hj
  rw[rc_get rs j hj,Array.getElem?_toList,Array.getElem?_eq_getElem hs,←get_flatK rcel 3 rs.toArray j (by simpa using hj),getElem!_pos _ j hs]
 ·rw[List.getElem?_eq_none (by simp;omega),List.getElem?_eq_none (by rw[rc_len];omega)]
theorem take_put(F cur:Array Value)(h:F.size≤cur.size):(putCells id 0 F cur).toList.take F.size=F.toList:=by
 apply List.ext_getElem?
 intro j
 by_cases hj:j<F.size
 ·rw[List.getElem?_take_of_lt hj,Array.getElem?_toList]
  simp[putCells,hj,show j<cur.size by omega]
 ·rw[List.getElem?_take_eq_none (by omega),List.getElem?_eq_none (by simp;omega)]
theorem sort_res(w:World)(lo:Nat)(v:Value)(rs:List Rs)(h:w.ownsRow lo 33 3 v rs.length (rc rs))(hl:rs.length<4611686018427387904) :
  Calls prog 65 #[v,.func (.func 66) #[] #[]] w fun e w'=>e=.returned (.tuple #[])∧∃rs':List Rs,rs'.Perm rs∧rs'.Pairwise (fun a b=>¬rLt b a)∧w'.ownsRow lo 33 3 v rs.length (rc rs')∧Chg (fun k=>v.ownBlock=some k) w w':=by
 rcases h.2 with ⟨rfl,h0⟩|⟨g,cap,cur,rfl,hlo,hg,hc,hm,hs,ht⟩
 ·have hz:rs=[]:=List.eq_nil_of_length_eq_zero h0
  subst hz
  refine(sortF_zero none 0 _ w).mono ?_
  rintro e w' ⟨rfl,rfl⟩
  exact⟨rfl,[],.refl _,.nil,h,Chg.refl _ _⟩
 ·letI:Inhabited Rs:=⟨⟨0,ByteArray.empty,0⟩⟩
  have hgl:g<w.heap.size:=(Array.getElem?_eq_some_iff.1 hg).1
  have hH:HoldsK rcel 3 w g 0 rs.toArray:=fun j hj=>by
   have hj':j<rs.length*3:=by simpa using hj
   refine⟨?_,by simp[World.frozen?,hg]⟩
   have h1:(cur.toList.take (rs.length*3))[j]?=(rc rs)[j]?:=by rw[ht]
   rw[List.getElem?_take_of_lt hj',rc_get rs j hj'] at h1
   simp only[World.cell?,hg,Nat.zero_add]
   simp only[Option.isSome_none,Bool.false_eq_true,if_false]
   rw[←Array.getElem?_toList,h1,get_flatK rcel 3 rs.toArray j (by simpa using hj')]
   rfl
  have hC:CmpLays prog 66 #[] rcel 3 io g 0 rs.toArray.size w:=fun m os dk _ x y=>by
   show Calls prog 66 #[.agg (rcel x).toArray,.agg (rcel y).toArray] _ _
   exact in_order x y _
  refine(AnyQ.slices_SortFunc Tryz.sortRes 3 isAgg33 sizeOf33 rcel (fun _=>rfl) (fun r u hu=>by simp[rcel] at hu;rcases hu with rfl|rfl|rfl<;>rfl) io io_swo 66 #[] g 0 cap rs.toArray w (enters_of func66 (by kernel_rfl) rfl) hC hH hgl (by simpa using hl)).mono ?_
  rintro e w' ⟨rfl,d',n,os,hp,hsd,rfl⟩
  obtain⟨hsz,-,hpm⟩:=hp
  have hn:rs.toArray.size=rs.length:=by simp
  have hpm2:d'.toList.Perm rs:=by
   have e1:d'.extract 0 rs.toArray.size=d':=by rw[←hsz];simp
   rw[e1] at hpm
   simpa using hpm
  have hdl:d'.toList.length=rs.length:=by simpa using hsz
  refine⟨rfl,d'.toList,hpm2,?_,?_,?_⟩
  ·rw[List.pairwise_iff_getElem]
   intro i j hi hj hij hlt
   have:=hsd i j (Nat.zero_le _) hij (by rw[hn,←hdl];exact hj)
   have h3:=of_decide_eq_false this
   rw[getElem!_pos d' j (by simpa using hj),getElem!_pos d' i (by simpa using hi)] at h3
   exact h3 ((io_lt _ _).2 (by simpa using hlt))
  ·have hF:(flatK rcel 3 d').toList=rc d'.toList:=by
    have:=flat_rc d'.toList
    rwa [Array.toArray_toList] at this
   have hFs:(flatK rcel 3 d').size=rs.length*3:=by rw[size_flatK,hsz,hn]
   refine⟨by rw[rc_len,hdl],.inr ⟨g,cap,putCells id 0 (flatK rcel 3 d') cur,rfl,hlo,?_,hc,hm,by simp[putCells,hs],?_⟩⟩
   ·show(grow (putRow id (Sort.ahead w n) g 0 (flatK rcel 3 d')) os).heap[g]?=_
    rw[heap_grow_old _ _ (by simpa using hgl)]
    simp[putRow,mapBlock,Sort.ahead,Array.getElem?_modify,hg,onCells]
   ·rw[←hFs,take_put _ _ (by rw[hFs,hs];omega)]
    exact hF
  ·show Chg (fun k=>(Value.slice (some ⟨g,0,none⟩) rs.length cap).ownBlock=some k) w (grow (putRow id (Sort.ahead w n) g 0 (flatK rcel 3 d')) os)
   refine⟨rfl,rfl,rfl,by simp,fun k hk hne=>?_⟩
   rw[heap_grow_old _ _ (by simpa using hk)]
   have:g≠k:=fun e=>hne (by rw[e];rfl)
   simp[putRow,mapBlock,Sort.ahead,Array.getElem?_modify,this]
end
section
open Go.RowKit
theorem app_res2(w7:World)(lo:Nat)(u:Value)(rs:List Rs)(r:Rs)(hu:w7.ownsRow lo 33 3 u rs.length (rc rs))(hl:rs.length<4100000000000)(hlo:lo≤w7.heap.size) :
  ∃v' w9,(Builtin.append_ #[82,82] 82 #[u,.slice (some ⟨w7.heap.size,0,none⟩) 1 1]).run prog (w7.alloc (.cells #[I r.lv,.string r.lb,I r.id] 33))=.ok v' w9∧w9.ownsRow lo 33 3 v' (rs++[r]).length (rc (rs++[r]))∧(w7.alloc (.cells #[I r.lv,.string r.lb,I r.id] 33)).grownBy w9 u.ownBlock:=by
 obtain⟨i0,hi,hz0,hz1,hz2⟩:=info_parts (show(prog.info? 33).map (fun i=>(i.zero,i.size,i.bytes))=some (some (.agg #[.int .i64 0,.string ByteArray.empty,.int .i64 0]),3,32)from by kernel_rfl)
 have hmx:(4100000000001:Nat)≤maxLen:=of_decide_eq_true (by kernel_rfl)
 have gA:G w7 (w7.alloc (.cells #[I r.lv,.string r.lb,I r.id] 33)):=(G.refl w7).alloc _
 have hb:=(Blk.new w7 (rcel r) 33)
 have hu2:(w7.alloc (.cells #[I r.lv,.string r.lb,I r.id] 33)).ownsRow lo 33 3 u rs.length (rc rs):=own_G hu gA
 obtain⟨v',w9,q1,q2,q3,-,-⟩:=run_append_own_at (P:=prog) (w:=w7.alloc (.cells #[I r.lv,.string r.lb,I r.id] 33)) lo 82 82 33 i0 _ 3 32 underlying82 hi hz0 hz1 hz2 rfl (by decide) u _ _ hu2 ⟨w7.heap.size,0,none⟩ 1 1 (rcel r) (by simp[rcel]) (fun j u hj=>by
  have:=hb.cell j
  rw[hj] at this
  rw[Addr.add_mid,Nat.zero_add];exact this) (fun u hu=>by simp[rcel] at hu;rcases hu with rfl|rfl|rfl<;>rfl) (by omega) (by omega) (Nat.le_trans hlo gA.size)
 refine⟨v',w9,q1,?_,q3⟩
 rw[rc_snoc,List.length_append]
 exact q2
theorem grown_G{a w w':World}{o:Option Nat}(h:G a w)(k:w.grownBy w' o)(hn:∀b,o=some b→a.heap.size≤b):G a w':=
 ⟨k.os.trans h.os,k.tape.trans h.tape,k.output.trans h.output,Nat.le_trans h.size k.size,fun j hj=>(k.block j (Nat.lt_of_lt_of_le hj h.size) (fun e=>by have:=hn j e.symm;omega)).trans (h.block j hj)⟩
theorem own_iter{w:World}{lo e k n r:Nat}{v:Value}{xs:List Value}(h:w.ownsRow lo e k v n xs)(hr:∃m s se c,w.heap[r]?=some (.mapIter m s se c)):¬v.ownBlock=some r:=fun e=>by
 obtain⟨m,s,se,c,hr⟩:=hr
 rcases h.2 with ⟨rfl,-⟩|⟨g,cap,cur,rfl,-,hg,-⟩
 ·cases e
 ·have e3:g=r:=by simpa [Value.ownBlock] using e
  rw[e3,hr] at hg
  cases hg
theorem own_map{w:World}{lo e k n b:Nat}{v:Value}{xs:List Value}(h:w.ownsRow lo e k v n xs)(hb:b<lo):¬v.ownBlock=some b:=fun e=>by
 have:=(World.ownsRow.lt h b e).1
 omega
theorem pl_fin{w w8 w':World}{u:Value}{rs rs2:List Rs}{p:Pt}{e:Ending}(he:e=.returned u)(hg:G w w8)(hp:rs2.Perm rs)(hs:rs2.Pairwise (fun a b=>¬rLt b a))(hr:w'.ownsRow w.heap.size 33 3 u rs.length (rc rs2))(hc:Chg (fun k=>u.ownBlock=some k) w8 w')(hn:rs.Nodup)(hm:∀r,r∈rs↔p.hf r≠0∨(p.goal≠0∧r=p.at_)) :
  ∃(v:Value) (rs:List Rs),e=.returned v∧w'.ownsRow w.heap.size 33 3 v rs.length (rc rs)∧rs.Nodup∧(∀r,r∈rs↔p.hf r≠0∨(p.goal≠0∧r=p.at_))∧rs.Pairwise rLt∧G w w':=by
 have hn2:rs2.Nodup:=hp.nodup_iff.2 hn
 refine⟨u,rs2,he,by rw[hp.length_eq];exact hr,hn2,fun r=>(hp.mem_iff).trans (hm r),?_,hg.andc hc (fun b hb=>(World.ownsRow.lt hr b hb).1)⟩
 exact(hs.and hn2).imp (fun h=>(rLt_tot _ _).elim id (fun g=>g.elim (fun g=>absurd g h.2) (fun g=>absurd g h.1)))
theorem places_any(p:Pt)(w:World)(hb:Blk w p.blk 63 p.cells)(hm:Mp Rs.v 33 w p.hb (fun r=>nz (p.hf r)))(L:List Rs)(hL:∀r,p.hf r≠0→r∈L∧r.ok)(hl:L.length<4099999999999)(hat:p.at_.ok) :
  Calls prog 33 #[ptr p.blk] w fun e w'=>∃(v:Value) (rs:List Rs),e=.returned v∧w'.ownsRow w.heap.size 33 3 v rs.length (rc rs)∧rs.Nodup∧(∀r,r∈rs↔p.hf r≠0∨(p.goal≠0∧r=p.at_))∧rs.Pairwise rLt∧G w w':=by
 obtain⟨w0,cnt0,hrun0,hrg0,hg0,hs0⟩:=hm.range kyR underlying60
 have hc:=hb.cell
 simp only[Pt.cells] at hc
 have HB:=hide hb;have HM:=hide hm;have HRG:=hide hrg0;have HG0:=hide hg0;have HS0:=hide hs0;have HL:=hide hL;have HLL:=hide hl;have HAT:=hide hat
 clear hb hm hrg0 hg0 hs0 hL hl hat
 go_enter func33,ntmps33
 go_wp2
 go_loopw [3,4] (fun u _ wr=>∃(left:Rs→Prop) (cnt:Nat) (rs:List Rs),Rg Rs.v 33 wr p.hb w.heap.size (fun r=>nz (p.hf r)) left cnt∧G w wr∧w.heap.size<wr.heap.size∧rs.Nodup∧(∀a,a∈rs↔p.hf a≠0∧¬left a)∧(∀a,left a→p.hf a≠0)∧wr.ownsRow w.heap.size 33 3 u rs.length (rc rs)) (fun _ _ wr=>wr.rangeLeft p.hb w.heap.size)
 case atStart=>
  exact⟨_,_,[],HRG.out,HG0.out,by rw[HS0.out];omega,List.nodup_nil,fun a=>⟨fun h=>(List.not_mem_nil h).elim,fun h=>absurd (show nz (p.hf a)≠none by simp[nz,h.1]) h.2⟩,fun a ha e=>ha (by simp[nz,e]),⟨rfl,.inl ⟨rfl,rfl⟩⟩⟩
 case round=>
  obtain⟨left,cnt,rs,hrg,hgw,hszw,hnd,hmem,hlf,hrow⟩:=hrel
  have HR:=hide hrg
  have HGW:=hide hgw
  have HSZW:=hide hszw
  have HND:=hide hnd
  have HMEM:=hide hmem
  have HLF:=hide hlf
  have HROW:=hide hrow
  have HLEN:Hid (rs.length≤L.length):=by
   have hs:∀a∈rs,a∈L:=fun a ha=>(HL.out a ((hmem a).1 ha).1).1
   exact nodup_len rs L hnd hs
  rcases hrg.next kyR 0 with ⟨hno,hnx⟩|⟨y,v,w1,cnt1,hky,hly,hgy,hnx,hrg1,hlt,hch,hsz,hen⟩
  ·have HNO:=hide hno
   have hall:∀a,a∈rs↔p.hf a≠0:=fun a=>⟨fun h=>((hmem a).1 h).1,fun h=>(hmem a).2 ⟨h,hno a (kyR_ok.2 (HL.out a h).2)⟩⟩
   have HALL:=hide hall
   have hc1:=(HB.out.G hgw).cell
   simp only[Pt.cells] at hc1
   have hlk:=(HM.out.G hgw).lookN kyR underlying60 zeroValue3 (kyR_ok.2 HAT.out)
   simp only[nz_get,Rs.v] at hlk
   clear hrg hgw hno hc hrow hszw hall hnd hmem hlf
   obtain⟨N2,hN2⟩:∃N2,N2=(4100000000000:Nat):=⟨_,rfl⟩
   have hsz2:rs.length+1<N2:=by have h1:=HLEN.out;have h2:=HLL.out;omega
   have HNN:=hide hN2
   have HSZ2:=hide hsz2
   clear hN2 hsz2
   by_cases hgo:p.goal=0
   ·simp only[hgo] at hc1
    have HGO:=hide hgo
    clear hgo hlk
    go_wp2
    go_quiet (fail)
    have HV:=hide ((G.refl wr).drewN nq)
    generalize wr.drewN nq=V at HV⊢
    have KS:=hide (sort_res V w.heap.size u3 rs (own_G HROW.out HV.out) (by have:=HSZ2.out;have:=HNN.out;omega))
    go_wp2_with (first|(go_at_call 65;with_reducible refine(KS.out).mono ?_;rintro e w' ⟨rfl,rs2,hp2,hs2,hr2,hc2⟩)|fail)
    go_ret
    exact pl_fin rfl (HGW.out.trans HV.out) hp2 hs2 hr2 hc2 HND.out (fun r=>by rw[HALL.out];exact⟨.inl,fun h=>h.elim id (fun h=>absurd HGO.out h.1)⟩)
   ·have hgb:(p.goal != 0)=true:=by simpa using hgo
    by_cases hha:p.hf p.at_=0
    ·have hhb:(p.hf p.at_==0)=true:=by simp[hha]
     have HGO:=hide hgo
     have HHA:=hide hha
     rw[hha] at hlk
     clear hgo hha
     go_wp2
     go_quiet (fail)
     have HV:=hide ((G.refl wr).drewN nq)
     have hcV:=(HB.out.G (HGW.out.trans HV.out)).cell
     simp only[Pt.cells] at hcV
     generalize wr.drewN nq=V at HV hcV⊢
     have hrowV:=own_G HROW.out HV.out
     have hzV:=(HGW.out.trans HV.out).size
     obtain⟨v9,w9,r1,r2,r3⟩:=app_res2 V w.heap.size u3 rs p.at_ hrowV (by have:=HSZ2.out;have:=HNN.out;omega) hzV
     have g9:G w w9:=grown_G ((HGW.out.trans HV.out).alloc _) r3 (fun b hb=>(World.ownsRow.lt hrowV b hb).1)
     have HR1:=hide r1
     have HG9:=hide g9
     have KS:=hide (sort_res w9 w.heap.size v9 (rs++[p.at_]) r2 (by rw[List.length_append];have:=HSZ2.out;have:=HNN.out;simp;omega))
     clear r1 r2 r3 g9 hrowV hzV hc1 hlk hgb hhb
     go_wp2_with (first|(at_builtin;refine wpList_append_run rfl _ _ 82 rfl _ _ rfl rfl HR1.out ?_)|(go_at_call 65;with_reducible refine(KS.out).mono ?_;rintro e w' ⟨rfl,rs2,hp2,hs2,hr2,hc2⟩)|fail)
     go_ret
     refine pl_fin rfl HG9.out hp2 hs2 hr2 hc2 ?_ (fun r=>?_)
     ·rw[List.nodup_append]
      refine⟨HND.out,by simp,fun a ha b hb e=>?_⟩
      simp at hb
      subst hb e
      exact(HALL.out _).1 ha HHA.out
     ·rw[List.mem_append,List.mem_singleton,HALL.out]
      exact⟨fun h=>h.elim .inl (fun h=>.inr ⟨HGO.out,h⟩),fun h=>h.elim .inl (fun h=>.inr h.2)⟩
    ·have hhb:(p.hf p.at_==0)=false:=by simpa using hha
     have HHA:=hide hha
     clear hgo hha
     go_wp2
     go_quiet (fail)
     have HV:=hide ((G.refl wr).drewN nq)
     generalize wr.drewN nq=V at HV⊢
     have KS:=hide (sort_res V w.heap.size u3 rs (own_G HROW.out HV.out) (by have:=HSZ2.out;have:=HNN.out;omega))
     go_wp2_with (first|(go_at_call 65;with_reducible refine(KS.out).mono ?_;rintro e w' ⟨rfl,rs2,hp2,hs2,hr2,hc2⟩)|fail)
     go_ret
     exact pl_fin rfl (HGW.out.trans HV.out) hp2 hs2 hr2 hc2 HND.out (fun r=>by rw[HALL.out];exact⟨.inl,fun h=>h.elim id (fun h=>by rw[h.2];exact HHA.out)⟩)
  ·have g1:G w w1:=⟨hch.os.trans hgw.os,hch.tape.trans hgw.tape,hch.output.trans hgw.output,Nat.le_trans hgw.size hch.size,fun j hj=>(hch.block j (Nat.lt_of_lt_of_le hj hgw.size) (by omega)).trans (hgw.block j hj)⟩
   have gB:G w1 (w1.alloc (.cells #[I y.lv,.string y.lb,I y.id] 33)):=(G.refl w1).alloc _
   have hit:∃m s se c,wr.heap[w.heap.size]?=some (.mapIter m s se c):=hrg.iter
   have hrow1:w1.ownsRow w.heap.size 33 3 u3 rs.length (rc rs):=own_chg hrow hch (fun b hb e=>own_iter hrow hit (by rw[hb,e]))
   have hit1:=hrg1.iter
   have hpb:=own_map hrow HM.out.lt
   obtain⟨v9,w9,r1,r2,r3⟩:=app_res2 (w1.alloc (.cells #[I y.lv,.string y.lb,I y.id] 33)) w.heap.size u3 rs y (own_G hrow1 gB) (by have:=HLEN.out;have:=HLL.out;omega) (Nat.le_trans g1.size gB.size)
   simp only[World.size_alloc] at r1
   have gC:G w1 ((w1.alloc (.cells #[I y.lv,.string y.lb,I y.id] 33)).alloc (.cells #[I y.lv,.string y.lb,I y.id] 33)):=gB.alloc _
   have hz1:w.heap.size<w1.heap.size:=by omega
   have hlo3:∀b,u3.ownBlock=some b→w.heap.size≤b:=fun b hb=>(World.ownsRow.lt hrow b hb).1
   have g9:G w w9:=grown_G (g1.trans gC) r3 hlo3
   have hn1:¬u3.ownBlock=some w.heap.size:=own_iter hrow hit
   have hp1:p.hb<w1.heap.size:=by
    have:=HM.out.lt
    have:=g1.size
    omega
   have hrg9:=hrg1.keep ((r3.block _ (Nat.lt_of_lt_of_le hp1 gC.size) (fun e=>hpb e.symm)).trans (gC.block _ hp1)) ((r3.block _ (Nat.lt_of_lt_of_le hz1 gC.size) (fun e=>hn1 e.symm)).trans (gC.block _ hz1))
   have hbn:=(Blk.new w1 [I y.lv,.string y.lb,I y.id] 33).cell
   have hleft:=hrg.left_eq
   have HR1:=hide r1;have HR2:=hide r2;have HG9:=hide g9;have HRG9:=hide hrg9;have HLT:=hide hlt;have HLEFT:=hide hleft;have HLY:=hide hly
   have HZ9:Hid (w.heap.size<w9.heap.size):=by
    have h1:=gC.size
    have h2:=r3.size
    show w.heap.size<w9.heap.size
    omega
   simp only[Rs.v] at hnx hen
   clear r1 r2 r3 g1 gB gC hrg1 hlt hleft hsz hrg hgw hch hky hgy hszw hit hrow1 hit1 hpb hz1 hlo3 g9 hn1 hp1 hrg9 hnd hmem hlf hrow
   go_wp2_with (first|(at_builtin;refine wpList_append_run rfl _ _ 82 rfl _ _ rfl rfl HR1.out ?_)|fail)
   have hre:∃(left:Rs→Prop) (cnt:Nat) (rs:List Rs),Rg Rs.v 33 w9 p.hb w.heap.size (fun r=>nz (p.hf r)) left cnt∧G w w9∧w.heap.size<w9.heap.size∧rs.Nodup∧(∀a,a∈rs↔p.hf a≠0∧¬left a)∧(∀a,left a→p.hf a≠0)∧w9.ownsRow w.heap.size 33 3 v9 rs.length (rc rs):=by
    refine⟨_,_,rs++[y],HRG9.out,HG9.out,HZ9.out,?_,fun a=>?_,fun a ha=>HLF.out a ha.1,HR2.out⟩
    ·rw[List.nodup_append]
     refine⟨HND.out,by simp,fun a ha b hb e=>?_⟩
     simp at hb
     subst hb e
     exact((HMEM.out _).1 ha).2 HLY.out
    ·rw[List.mem_append,List.mem_singleton]
     constructor
     ·rintro(h|rfl)
      ·exact⟨((HMEM.out a).1 h).1,fun hh=>((HMEM.out a).1 h).2 hh.1⟩
      ·exact⟨HLF.out _ HLY.out,fun hh=>hh.2 rfl⟩
     ·rintro⟨h1,h2⟩
      by_cases e:a=y
      ·exact .inr e
      ·exact .inl ((HMEM.out a).2 ⟨h1,fun hl=>h2 ⟨hl,e⟩⟩)
   go_roundw
   case rel=>exact hre
   case measure=>
    rw[HRG9.out.left_eq,HLEFT.out]
    exact HLT.out
end
section
open Go.RowKit
def Gs.delPt(s:Gs)(x:Int):Gs:={s with lv:=upd s.lv x none}
theorem TT.delPt{w w':World}{t:Nat}{s:Gs}{x:Int}(h:TT w t s)(hm:Mp (fun n:Int=>I n) 3 w' s.lb (upd (fun x=>(s.lv x).map fun p=>ptr p.blk) x none))(hc:Chg (fun k=>k=s.lb) w w'):TT w' t (s.delPt x)∧Ext w w' s (s.delPt x):=by
 have hk:∀b tg,s.own b=some tg→tg≠.lv→w'.heap[b]?=w.heap[b]?:=fun b tg o n=>hc.block b (h.lt b tg o) (fun e=>by
  rw[e,h.o2] at o
  exact n (Option.some.inj o).symm)
 refine⟨⟨h.tb.keep (hk _ _ h.o1 (by simp)),hm.congr (fun z=>?_),h.pm.keep (hk _ _ h.o3 (by simp)),fun z p hz=>?_,fun z p hz=>?_,h.o1,h.o2,h.o3,fun b tg o=>Nat.lt_of_lt_of_le (h.lt b tg o) hc.size⟩,⟨hc.mono (fun b e=>by rw[e,h.o2];simp),fun _ _ o=>o,fun _ _ o=>.inl o⟩⟩
 ·by_cases e:z=x
  ·subst e;simp[Gs.delPt,upd_same]
  ·simp[Gs.delPt,upd_other e]
 ·by_cases e:z=x
  ·subst e;simp[Gs.delPt,upd_same] at hz
  ·replace hz:upd s.lv x none z=some p:=hz
   rw[upd_other e] at hz
   exact(h.pt z p hz).keep (fun b o=>by rcases o with o|o|o<;>exact hk _ _ o (by simp))
 ·exact(h.pl z p hz).keep (fun b o=>by rcases o with o|o|o<;>exact hk _ _ o (by simp))
theorem app_rows3(w:World)(lo lo2:Nat)(u v:Value)(ys zs:List Int)(hu:w.ownsRow lo 3 1 u ys.length (ys.map fun z=>I z))(hv:w.ownsRow lo2 3 1 v zs.length (zs.map fun z=>I z))(hl:ys.length+zs.length<4100000000000)(hlo:lo≤w.heap.size) :
  ∃v' w',(Builtin.append_ #[42,42] 42 #[u,v]).run prog w=.ok v' w'∧w'.ownsRow lo 3 1 v' (ys++zs).length ((ys++zs).map fun z=>I z)∧w.grownBy w' u.ownBlock∧(v'.ownBlock=u.ownBlock∨v'.ownBlock=some w.heap.size):=by
 obtain⟨i0,hi,hz0,hz1,hz2⟩:=info_parts (show(prog.info? 3).map (fun i=>(i.zero,i.size,i.bytes))=some (some (.int .i64 0),1,8)from by kernel_rfl)
 have hmx:(4100000000000:Nat)≤maxLen:=of_decide_eq_true (by kernel_rfl)
 rcases hv.2 with ⟨rfl,h0⟩|⟨g,cap,cur,rfl,-⟩
 ·have hz:zs=[]:=List.eq_nil_of_length_eq_zero h0
  subst hz
  rw[List.append_nil]
  exact⟨u,w,run_append_owned_none w lo 42 42 3 i0 1 underlying42 hi u _ _ hu,hu,⟨rfl,rfl,rfl,Nat.le_refl _,fun _ _ _=>rfl⟩,.inl rfl⟩
 ·obtain⟨v',w9,q1,q2,q3,-,q5⟩:=run_append_own_at (P:=prog) (w:=w) lo 42 42 3 i0 _ 1 8 underlying42 hi hz0 hz1 hz2 rfl (by decide) u _ _ hu ⟨g,0,none⟩ zs.length cap (zs.map fun z=>I z) (by simp) (fun j u hj=>by
   have hjl:j<zs.length:=by
    have:=(List.getElem?_eq_some_iff.1 hj).1
    simpa using this
   have:=hv.cellAt j (by omega)
   rw[hj] at this
   rw[Addr.add_mid,Nat.zero_add];exact this) (fun u hu=>by
   obtain⟨z,-,e⟩:=List.mem_map.1 hu
   rw[←e];rfl) (by omega) (by omega) hlo
  refine⟨v',w9,q1,?_,q3,q5⟩
  rw[List.length_append,List.map_append]
  exact q2
theorem ms_end{N n:Nat}(h:n<N):N-((n:Int)+1).toNat<N-(n:Int).toNat:=by omega
theorem own_apart{w:World}{a b k k' m n:Nat}{u v:Value}{xs ys:List Value}{e e':TypeId}(hu:w.ownsRow a e k u m xs)(hv:w.ownsRow b e' k' v n ys)(hne:e≠e'):∀c,u.ownBlock=some c→¬v.ownBlock=some c:=fun c h1 h2=>by
 rcases hu.2 with ⟨rfl,-⟩|⟨g,cap,cur,rfl,-,hg,-⟩
 ·cases h1
 rcases hv.2 with ⟨rfl,-⟩|⟨g',cap',cur',rfl,-,hg',-⟩
 ·cases h2
 have e1:g=c:=by simpa [Value.ownBlock] using h1
 have e2:g'=c:=by simpa [Value.ownBlock] using h2
 rw[e1] at hg
 rw[e2,hg] at hg'
 cases hg'
 exact hne rfl
theorem row_form{w:World}{lo e k n:Nat}{v:Value}{xs:List Value}(h:w.ownsRow lo e k v n xs):∃a c,v=.slice a n c:=by
 rcases h.2 with ⟨rfl,rfl⟩|⟨g,cap,cur,rfl,-⟩
 iterate 2
  ·exact⟨_,_,rfl⟩
def EndOk(t:Nat)(x:Int)(s0:Gs)(rs:List Rs)(RS:Gs→List Int→Prop):Prop:=∃Inv:Nat→Gs→List Int→Prop,Inv 0 s0 []∧(∀s' out,Inv rs.length s' out→RS s' out)∧
 ∀n r s' out,rs[n]?=some r→Inv n s' out→r.ok∧∃(q:Pl) (LS:Gs→Prop),s'.pl r=some q∧
  (∀W,TT W t s'→Calls prog 34 #[ptr q.blk,I x] W fun e w'=>e=.returned (.tuple #[])∧∃s5,LS s5∧s5.lb=s'.lb∧s5.pb=s'.pb∧(∃q5,s5.pl r=some q5∧q5.blk=q.blk)∧TT w' t s5∧Ext W w' s' s5)∧
  ∀s5,LS s5→∀w3,TT w3 t s5→Tb w3→Calls prog 35 #[ptr t,r.v] w3 fun e w'=>∃u zs s6,e=.returned u∧out.length+zs.length<4100000000000∧w'.ownsRow w3.heap.size 3 1 u zs.length (zs.map fun z=>I z)∧TT w' t s6∧Ext w3 w' s5 s6∧Inv (n+1) s6 (out++zs)
theorem End_gen(t:Nat)(s:Gs)(x:Int)(p:Pt)(w:World)(RS:Gs→List Int→Prop)(h:TT w t s)(ht:Tb w)(hgl:s.own 1=none∧s.own 0=none)(hx:R64 x)(hp:s.lv x=some p)(L:List Rs)(hL:∀r,p.hf r≠0→r∈L∧r.ok)(hl:L.length<4099999999999)(hat:p.at_.ok)
  (KI:∀rs:List Rs,rs.Nodup→(∀r,r∈rs↔p.hf r≠0∨(p.goal≠0∧r=p.at_))→rs.Pairwise rLt→EndOk t x (s.delPt x) rs RS) :
  Calls prog 8 #[ptr t,I x] w fun e w'=>∃u out s',e=.returned (.tuple #[u,.slice none 0 0,I 0])∧w'.ownsRow w.heap.size 3 1 u out.length (out.map fun z=>I z)∧TT w' t s'∧Ext w w' s s'∧RS s' out:=by
 have KP:=hide (partyOf_any t s x w h hx)
 rw[hp] at KP
 simp only[ptv,Option.isSome_some,if_true] at KP
 obtain⟨w1,hrun1,hm1,hc1,hs1⟩:=h.lm.del kyI underlying78 (kyI_ok.2 hx) 0
 obtain⟨hT1,hE1⟩:=h.delPt hm1 hc1
 have hpo:=h.pt x p hp
 have hK1:=places_any p w1 (hpo.blk.keep (hc1.block _ hpo.blk.lt (fun e=>h.ne hpo.t1 h.o2 (by simp) e))) (hpo.hm.keep (hc1.block _ (h.lt _ _ hpo.t2) (fun e=>h.ne hpo.t2 h.o2 (by simp) e))) L hL hl hat
 have hct:=h.tb.cell
 have KPl:=hide hK1;have HT:=hide h;have HTB:=hide ht;have HGL:=hide hgl;have HX:=hide hx;have HKI:=hide KI;have HT1:=hide hT1;have HE1:=hide hE1
 have HLL:=hide hl
 have HLp:=hide hL
 clear h ht hgl hx hp KI hT1 hE1 hpo hK1 hm1 hc1 hs1 hL hl hat
 go_enter func8,ntmps8
 go_wp2_with (first|(go_at_call 17;refine KP.out.mono ?_;rintro e w' ⟨rfl,hw'⟩;have hw2:=hw'.symm;subst hw2;clear hw')|(go_at_call 33;refine KPl.out.mono ?_;rintro e W ⟨vp,rs,rfl,hrow,hnd,hmem,hpw,hgW⟩;obtain⟨va,vc,hvp⟩:=row_form hrow;subst hvp)|fail)
 obtain⟨Inv,h0,hfin,hstep⟩:=HKI.out rs hnd hmem hpw
 have HLEN:Hid (rs.length<4100000000001):=by
  have h1:=nodup_len rs (p.at_::L) hnd (fun a ha=>by
   rcases(hmem a).1 ha with hh|hh
   ·exact List.mem_cons_of_mem _ (HLp.out a hh).1
   ·rw[hh.2];exact List.mem_cons_self ..)
  have h2:=HLL.out
  simp only[List.length_cons] at h1
  show rs.length<_
  omega
 obtain⟨vp,hvp⟩:∃vp,vp=Value.slice va rs.length vc:=⟨_,rfl⟩
 have HVP:=hide hvp
 rw[←hvp] at hrow
 have HROW:=hide hrow
 have HGW:=hide hgW
 have HI0:=hide h0
 have HFIN:=hide hfin
 have HST:=hide hstep
 clear hrow hgW hct hrun1 h0 hfin hstep hnd hmem hpw hvp
 go_loopw [9,29,11] (fun g i _ wr=>∃(n:Nat) (s':Gs) (out:List Int),n≤rs.length∧i=I (n:Int)∧Inv n s' out∧wr.ownsRow w.heap.size 3 1 g out.length (out.map fun z=>I z)∧(∀b,g.ownBlock=some b→s'.own b=none)∧wr.ownsRow w1.heap.size 33 3 vp rs.length (rc rs)∧(∀b,vp.ownBlock=some b→s'.own b=none)∧TT wr t s'∧Ext w wr s s') (fun _ i _ _=>rs.length-(RowKit.intOf i).toNat)
 case atStart=>
  refine⟨0,s.delPt x,[],Nat.zero_le _,rfl,HI0.out,⟨rfl,.inl ⟨rfl,rfl⟩⟩,(fun b hb=>by cases hb),HROW.out,(fun b hb=>?_),HT1.out.G HGW.out,HE1.out.G HGW.out⟩
  have h1:=World.ownsRow.lt HROW.out b hb
  cases e:(s.delPt x).own b with
  | none=>rfl
  | some tg=>have:=HT1.out.lt b tg e;omega
 case round=>
  obtain⟨n,s',out,hnr,rfl,hinv,hg,hgo,hvr,hvo,hT,hE⟩:=hrel
  by_cases hlt:n<rs.length
  ·obtain⟨r,hr⟩:∃r,rs[n]?=some r:=⟨_,List.getElem?_eq_getElem hlt⟩
   obtain⟨hro,q,LS,hq,hle,hse⟩:=HST.out n r s' out hr hinv
   have hnI:(n:Int)<(rs.length:Int):=by omega
   have hwn:wrap64 ((n:Int)+1)=(n:Int)+1:=by have:=HLEN.out;unfold wrap64;omega
   have HWN:=hide hwn
   have hcel:∃ga,va=some ⟨ga,0,none⟩∧wr.cell? ⟨ga,n*3,none⟩=some (I r.lv)∧wr.cell? ⟨ga,n*3+1,none⟩=some (.string r.lb)∧wr.cell? ⟨ga,n*3+2,none⟩=some (I r.id):=by
    have h2:=hvr
    rw[HVP.out] at h2
    rcases h2.2 with ⟨e,e2⟩|⟨ga,cap,cur,e,-⟩
    ·omega
    ·have e3:va=some ⟨ga,0,none⟩:=by cases e;rfl
     rw[e] at h2
     refine⟨ga,e3,?_,?_,?_⟩
     ·rw[h2.cellAt _ (by omega)];exact rc_at rs n r hr 0 _ rfl
     ·rw[h2.cellAt _ (by omega)];exact rc_at rs n r hr 1 _ rfl
     ·rw[h2.cellAt _ (by omega)];exact rc_at rs n r hr 2 _ rfl
   obtain⟨ga,hva,hr0,hr1,hr2⟩:=hcel
   subst hva
   have gA:G wr (wr.alloc (.cells #[I r.lv,.string r.lb,I r.id] 33)):=(G.refl wr).alloc _
   have hTA:=hT.G gA.drew
   have hlk:=hTA.pm.look kyR underlying79 (zeroValue84 _) (kyR_ok.2 hro)
   rw[hq] at hlk
   have hS9:(fun V=>(∀o,V.cell? ⟨t,o,none⟩=([.map (some s'.lb),.map (some s'.pb)]:List Value)[o]?)∧(∀o,V.cell? ⟨wr.heap.size,o,none⟩=([I r.lv,.string r.lb,I r.id]:List Value)[o]?)∧(Instr.lookup 79 (.map (some s'.pb)) (.agg #[I r.lv,.string r.lb,I r.id]) false).run prog V=.ok (ptr q.blk) V) (wr.alloc (.cells #[I r.lv,.string r.lb,I r.id] 33)).drew:=⟨hTA.tb.cell,((Blk.new wr [I r.lv,.string r.lb,I r.id] 33).drew).cell,hlk⟩
   have HS9:=hide hS9
   have KL:=hide (hle _ hTA)
   have HA:=hide gA
   have HBX:=hide ((Blk.new wr [I r.lv,.string r.lb,I r.id] 33).drew)
   have HZ3:Hid (¬(s'.own wr.heap.size≠none)):=fun hn=>by
    cases e:s'.own wr.heap.size with
    | none=>exact hn e
    | some tg=>have:=hT.lt _ _ e;omega
   have HRO:=hide hro;have HR:=hide hr;have HG:=hide hg;have HGO:=hide hgo;have HVR:=hide hvr;have HVO:=hide hvo;have HTT:=hide hT;have HE:=hide hE;have HSE:=hide hse;have HLT:=hide hlt
   clear gA hTA hlk hS9 hro hr hg hgo hvr hvo hT hE hse hle hinv hq hlt hnr hwn
   go_wp2_with fail
   refine wp_region_noPanic ?_
   refine wp_region_held_drew (S:=(fun V=>(∀o,V.cell? ⟨t,o,none⟩=([.map (some s'.lb),.map (some s'.pb)]:List Value)[o]?)∧(∀o,V.cell? ⟨wr.heap.size,o,none⟩=([I r.lv,.string r.lb,I r.id]:List Value)[o]?)∧(Instr.lookup 79 (.map (some s'.pb)) (.agg #[I r.lv,.string r.lb,I r.id]) false).run prog V=.ok (ptr q.blk) V)) (by kernel_rfl) (HS9.out) (fun hHeld=>?_)
   refine wpAnyH_take (i:=0) (v:=?_) rfl (by kernel_rfl) (by kernel_rfl) (by kernel_rfl) (fun _ _ _ h=>h) (Or.inl ⟨by rfl,?_⟩) hHeld ?_
   rotate_left 1
   ·(intro w hSw;obtain⟨q1,q2,q3⟩:=hSw;go_simp;try with_reducible rfl)
   try simp only[Act.put,zzA,zzB,zzD,zzE,zzF]
   refine wpAnyH_take (i:=1) (v:=?_) rfl (by kernel_rfl) (by kernel_rfl) (by kernel_rfl) (fun _ _ _ h=>h) (Or.inl ⟨by rfl,?_⟩) hHeld ?_
   rotate_left 1
   ·(intro w hSw;obtain⟨q1,q2,q3⟩:=hSw;go_simp;try with_reducible rfl)
   try simp only[Act.put,zzA,zzB,zzC,zzD,zzE,zzF]
   refine wpAnyH_take (i:=2) (v:=?_) rfl (by kernel_rfl) (by kernel_rfl) (by kernel_rfl) (fun _ _ _ h=>h) (Or.inl ⟨by rfl,?_⟩) hHeld ?_
   rotate_left 1
   ·(intro w hSw;obtain⟨q1,q2,q3⟩:=hSw;go_simp;try with_reducible rfl)
   try simp only[Act.put,zzA,zzB,zzC,zzD,zzE,zzF]
   refine wpAnyH_take (i:=3) (v:=?_) rfl (by kernel_rfl) (by kernel_rfl) (by kernel_rfl) (fun _ _ _ h=>h) (Or.inl ⟨by rfl,?_⟩) hHeld ?_
   rotate_left 1
   ·(intro w hSw;obtain⟨q1,q2,q3⟩:=hSw;go_simp;try with_reducible rfl)
   try simp only[Act.put,zzA,zzB,zzC,zzD,zzE,zzF]
   refine wpAnyH_take (i:=4) (v:=?_) rfl (by kernel_rfl) (by kernel_rfl) (by kernel_rfl) (fun _ _ _ h=>h) (Or.inl ⟨by rfl,?_⟩) hHeld ?_
   rotate_left 1
   ·(intro w hSw;obtain⟨q1,q2,q3⟩:=hSw;go_simp;try with_reducible rfl)
   try simp only[Act.put,zzA,zzB,zzC,zzD,zzE,zzF]
   refine wpAnyH_take (i:=5) (v:=?_) rfl (by kernel_rfl) (by kernel_rfl) (by kernel_rfl) (fun _ _ _ h=>h) (Or.inl ⟨by rfl,?_⟩) hHeld ?_
   rotate_left 1
   ·(intro w hSw;obtain⟨q1,q2,q3⟩:=hSw;go_simp;try with_reducible rfl)
   try simp only[Act.put,zzA,zzB,zzC,zzD,zzE,zzF]
   refine wpAnyH_take (i:=6) (v:=?_) rfl (by kernel_rfl) (by kernel_rfl) (by kernel_rfl) (fun _ _ _ h=>h) (Or.inl ⟨by rfl,?_⟩) hHeld ?_
   rotate_left 1
   ·(intro w hSw;obtain⟨q1,q2,q3⟩:=hSw;go_simp;try with_reducible rfl)
   try simp only[Act.put,zzA,zzB,zzC,zzD,zzE,zzF]
   refine wpAnyH_ready (rs:=[7]) (by kernel_rfl) (by simp) (AllReadyH.cons rfl (fun K hK=>?_) AllReadyH.nil)
   clear hHeld
   go_simp
   with_reducible refine(KL.out).mono ?_
   rintro e w5 ⟨rfl,s5,hls,hbb,hsb,hpq,hT5,hE5⟩
   have HC5:=hide (HBX.out.chg hE5.chg HZ3.out).cell
   have hl5:=hT5.pm.look kyR underlying79 (zeroValue84 _) (kyR_ok.2 HRO.out)
   obtain⟨q5,hq5,hq5b⟩:=hpq
   rw[hq5] at hl5
   simp only[Option.map_some,Option.getD_some] at hl5
   rw[hq5b] at hl5
   have htb5:=hT5.tb.cell
   rw[hbb,hsb] at htb5
   rw[hsb] at hl5
   have HTC5:=hide htb5
   have HL5:=hide hl5
   have HT5:=hide hT5
   have HE5:=hide hE5
   have HLS:=hide hls
   clear hl5 hq5 hq5b hT5 hE5 hls hbb hsb htb5
   go_wp2_with fail
   refine hK.out _ _ (⟨HTC5.out,HC5.out,HL5.out⟩) (fun hHeld=>?_)
   clear hK K
   try simp only[Act.put,zzA,zzB,zzC,zzD,zzE,zzF]
   refine wpAnyH_done (by kernel_rfl) ?_ _
   refine NoPanic.normal ?_
   have hE5':Ext w w5 s s5:=(HE.out.G HA.out.drew).trans HE5.out
   have hTb5:=HTB.out.ext hE5' HGL.out
   have c5:=HC5.out
   have KS5:=hide ((HSE.out s5 HLS.out w5 HT5.out hTb5).mono (fun e w6 h6=>show∃u zs s6 v7 w7,e=.returned u∧Hid ((Builtin.append_ #[42,42] 42 #[u9,u]).run prog w6=.ok v7 w7)∧Hid (w7.ownsRow w.heap.size 3 1 v7 (out++zs).length ((out++zs).map fun z=>I z))∧Hid (∀b,v7.ownBlock=some b→s6.own b=none)∧Hid (w7.ownsRow w1.heap.size 33 3 vp rs.length (rc rs))∧Hid (∀b,vp.ownBlock=some b→s6.own b=none)∧Hid (TT w7 t s6)∧Hid (Ext w w7 s s6)∧Hid (Inv (n+1) s6 (out++zs))from by
    obtain⟨u,zs,s6,rfl,hol,hrow6,hT6,hE6,hI6⟩:=h6
    have hE6':=hE5'.trans hE6
    have hEE:=HE5.out.trans hE6
    have hgl9:=HA.out.drew
    have f1:∀b,u9.ownBlock=some b→s6.own b=none:=fun b hb=>hEE.free (Nat.lt_of_lt_of_le (World.ownsRow.lt HG.out b hb).2 hgl9.size) (HGO.out b hb)
    have f2:∀b,vp.ownBlock=some b→s6.own b=none:=fun b hb=>hEE.free (Nat.lt_of_lt_of_le (World.ownsRow.lt HVR.out b hb).2 hgl9.size) (HVO.out b hb)
    have hg6:=own_ext (own_G HG.out hgl9) hEE HGO.out
    have hv6:=own_ext (own_G HVR.out hgl9) hEE HVO.out
    obtain⟨v7,w7,r1,r2,r3,r4⟩:=app_rows3 w6 w.heap.size w5.heap.size u9 u out zs hg6 hrow6 hol hE6'.chg.size
    have hcg:Chg (fun k=>u9.ownBlock=some k) w6 w7:=⟨r3.os,r3.tape,r3.output,r3.size,fun k hk hn=>r3.block k hk (fun e=>hn e.symm)⟩
    refine⟨u,zs,s6,v7,w7,rfl,r1,r2,fun b hb=>?_,own_chg hv6 hcg (fun b hb e=>own_apart hg6 hv6 (by decide) b e hb),f2,hT6.chg hcg f1,?_,hI6⟩
    ·rcases r4 with e|e
     ·exact f1 b (by rw[←e];exact hb)
     ·have e2:b=w6.heap.size:=by rw[hb] at e;exact Option.some.inj e
      cases e3:s6.own b with
      | none=>rfl
      | some tg=>have:=hT6.lt b tg e3;omega
    ·exact⟨⟨hcg.os.trans hE6'.chg.os,hcg.tape.trans hE6'.chg.tape,hcg.output.trans hE6'.chg.output,Nat.le_trans hE6'.chg.size hcg.size,fun b hb hn=>(hcg.block b (Nat.lt_of_lt_of_le hb hE6'.chg.size) (fun e=>by have:=(World.ownsRow.lt HG.out b e).1;omega)).trans (hE6'.chg.block b hb hn)⟩,hE6'.old,hE6'.new⟩))
   simp only[Rs.v] at KS5
   clear hE5' hTb5 hr0 hr1 hr2
   go_wp2_with (first|(go_at_call 35;with_reducible refine(KS5.out).mono ?_;rintro e w6 ⟨u,zs,s6,v7,w7,rfl,HR1,HR2,HF7,HV7,HW7,HT7,HE7,HI7⟩)|(at_builtin;refine wpList_append_run rfl _ _ 42 rfl _ _ rfl rfl HR1.out ?_)|fail)
   exact⟨⟨n+1,s6,out++zs,HLT.out,by rw[HWN.out];exact rl1 n,HI7.out,HR2.out,HF7.out,HV7.out,HW7.out,HT7.out,HE7.out⟩,by rw[HWN.out];exact ms_end HLT.out⟩
  ·have hne:n=rs.length:=by omega
   subst hne
   have HROW2:=hide hg;have HT2:=hide hT;have HE2:=hide hE;have HR2:=hide (HFIN.out s' out hinv)
   have hnI:¬((rs.length:Int)<(rs.length:Int)):=by omega
   clear hg hT hE hinv hgo hvr hvo hnr hlt
   go_wp2
   go_ret3
   first
    | exact⟨u9,out,s',rfl,HROW2.out,HT2.out,HE2.out,HR2.out⟩
    | exact⟨u9,rfl,out,HROW2.out,s',HT2.out,HE2.out,HR2.out⟩
    | exact⟨u9,rfl,out,s',HROW2.out,HT2.out,HE2.out,HR2.out⟩
    | fail
end
end Go.Proofs.YtadfaiciolfgjaaGreatDoor
