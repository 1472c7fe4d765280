import Derived.Test.YtadfaiciolfgjaaGreatDoorLr11
namespace Go.Proofs.YtadfaiciolfgjaaGreatDoor
open Go.Proofs.Tryz
set_option maxHeartbeats 1000000
set_option maxRecDepth 100000
section
open Go.RowKit
noncomputable def rltB(a b:Rs):Bool:=@decide (rLt a b) (Classical.propDecidable _)
theorem rltB_iff{a b:Rs}:rltB a b=true↔rLt a b:=⟨fun h=>@of_decide_eq_true _ (Classical.propDecidable _) h,@decide_eq_true _ (Classical.propDecidable _)⟩
theorem rltB_no{a b:Rs}:rltB a b=false↔¬rLt a b:=by rw[←Bool.not_eq_true,rltB_iff]
theorem rLt_asym{a b:Rs}(h:rLt a b):¬rLt b a:=fun h2=>rLt_irrefl a (rLt_trans h h2)
theorem bl_iff:∀(x y:List UInt8),Op.bytesLess x y=true↔bLt x y
 | x,[]=>by
  cases x<;>simp[Op.bytesLess,bLt,Lib.compareBytes]
 | [],b::y=>by simp[Op.bytesLess,bLt,Lib.compareBytes]
 | a::x,b::y=>by
  have ih:=bl_iff x y
  rw[Op.bytesLess,Bool.or_eq_true,Bool.and_eq_true,ih,bLt_cons]
  simp
theorem rlt_val{a b:Rs}{v:Bool}(h:v=true↔rLt a b):Ending.returned (.bool v)=.returned (.bool (rltB a b)):=by
 have:v=rltB a b:=by
  have h2:=@rltB_iff a b
  cases v<;>cases hh:rltB a b<;>simp_all
 rw[this]
theorem ahead_r(a b:Rs)(w:World):Calls prog 70 #[.agg #[I a.lv,.string a.lb,I a.id],.agg #[I b.lv,.string b.lb,I b.id]] w fun e w'=>e=.returned (.bool (rltB a b))∧G w w':=by
 have HG:Hid (G w ((w.alloc (.cells #[I a.lv,.string a.lb,I a.id] 33)).alloc (.cells #[I b.lv,.string b.lb,I b.id] 33))):=((G.refl w).alloc _).alloc _
 obtain⟨q,hq⟩:∃q,rltB a b=q:=⟨_,rfl⟩
 have HQ:=hide hq
 rw[hq]
 clear hq
 have c1:=((Blk.new w [I a.lv,.string a.lb,I a.id] 33).G ((G.refl _).alloc (.cells #[I b.lv,.string b.lb,I b.id] 33))).cell
 have c2:=(Blk.new (w.alloc (.cells #[I a.lv,.string a.lb,I a.id] 33)) [I b.lv,.string b.lb,I b.id] 33).cell
 rw[World.size_alloc] at c2
 obtain⟨al,ab,ai⟩:=a
 obtain⟨bl,bb,bi⟩:=b
 simp only at HG c1 c2⊢
 by_cases h1:al=bl
 ·by_cases h2:ab=bb
  ·have HF:Hid (decide (ai<bi)=true↔rLt ⟨al,ab,ai⟩ ⟨bl,bb,bi⟩):=by
    have hn:¬bLt ab.data.toList bb.data.toList:=by rw[h2];unfold bLt;have:=(cB_eq bb.data.toList bb.data.toList).2 rfl;omega
    simp[Hid,rLt,h1,h2,h2▸hn]
   subst h1 h2
   go_enter func70,ntmps70
   go_wp2
   go_ret
   exact⟨by rw[←HQ.out];exact rlt_val HF.out,HG.out⟩
  ·have HF:Hid (Op.bytesLess ab.toList bb.toList=true↔rLt ⟨al,ab,ai⟩ ⟨bl,bb,bi⟩):=by
    show _↔_
    rw[bl_iff,Lib.toList_data,Lib.toList_data]
    unfold rLt
    simp[h1,h2]
   have d2:¬ab.toList=bb.toList:=fun e=>h2 (toList_inj e)
   have d3:(ab.toList==bb.toList)=false:=by simp[d2]
   subst h1
   go_enter func70,ntmps70
   go_wp2
   go_ret
   exact⟨by rw[←HQ.out];exact rlt_val HF.out,HG.out⟩
 ·have HF:Hid (decide (al<bl)=true↔rLt ⟨al,ab,ai⟩ ⟨bl,bb,bi⟩):=by
   simp[Hid,rLt,h1]
  have d1:(al==bl)=false:=by simp[h1]
  have d2:decide (al=bl)=false:=by simp[h1]
  go_enter func70,ntmps70
  go_wp2
  go_ret
  exact⟨by rw[←HQ.out];exact rlt_val HF.out,HG.out⟩
noncomputable def insR(x:Rs)(l:List Rs):List Rs:=l.filter (fun a=>rltB a x)++x::l.filter (fun a=>rltB x a)
theorem insR_up{x:Rs}{l:List Rs}(h:l.Pairwise rLt):(insR x l).Pairwise rLt:=by
 unfold insR
 rw[List.pairwise_append,List.pairwise_cons]
 refine⟨h.sublist List.filter_sublist,⟨fun a ha=>?_,h.sublist List.filter_sublist⟩,fun a ha b hb=>?_⟩
 ·exact rltB_iff.1 (List.mem_filter.1 ha).2
 ·have h1:rLt a x:=rltB_iff.1 (List.mem_filter.1 ha).2
  rcases List.mem_cons.1 hb with rfl|hb
  ·exact h1
  ·exact rLt_trans h1 (rltB_iff.1 (List.mem_filter.1 hb).2)
theorem insR_mem{x:Rs}{l:List Rs}(y:Rs):y∈insR x l↔y=x∨y∈l:=by
 unfold insR
 rw[List.mem_append,List.mem_cons,List.mem_filter,List.mem_filter,rltB_iff,rltB_iff]
 constructor
 ·rintro(h|h|h)
  ·exact .inr h.1
  ·exact .inl h
  ·exact .inr h.1
 ·rintro(h|h)
  ·exact .inr (.inl h)
  ·rcases rLt_tot y x with k|k|k
   ·exact .inl ⟨h,k⟩
   ·exact .inr (.inl k)
   ·exact .inr (.inr ⟨h,k⟩)
theorem insR_len(x:Rs)(l:List Rs):(insR x l).length≤l.length+1:=by
 unfold insR
 rw[List.length_append,List.length_cons]
 have:(l.filter (fun a=>rltB a x)).length+(l.filter (fun a=>rltB x a)).length≤l.length:=by
  induction l with
  | nil=>simp
  | cons a l ih=>
   rw[List.filter_cons,List.filter_cons]
   cases h1:rltB a x with
   | true=>
    have h2:rltB x a=false:=rltB_no.2 (rLt_asym (rltB_iff.1 h1))
    simp[h2];omega
   | false=>cases h2:rltB x a<;>simp<;>omega
 omega
noncomputable def dnR(x:Rs)(l:List Rs):Bool:=l.any fun a=>!rltB a x
noncomputable def outR(x:Rs)(l:List Rs):List Rs:=l.filter (fun a=>rltB a x)++((if dnR x l then [x] else [])++l.filter (fun a=>rltB x a))
section
variable {x a:Rs} {l:List Rs}
theorem gtR_none(h:dnR x l=false):l.filter (fun a=>rltB x a)=[]:=by
 rw[List.filter_eq_nil_iff]
 intro a ha hx
 have:dnR x l=true:=by
  unfold dnR
  rw[List.any_eq_true]
  exact⟨a,ha,by rw[rltB_no.2 (rLt_asym (rltB_iff.1 hx))];rfl⟩
 rw[h] at this;cases this
theorem dnR_snoc:dnR x (l++[a])=(dnR x l || !rltB a x):=by simp[dnR]
theorem outR_lt(hd:dnR x l=false)(ha:rLt a x):dnR x (l++[a])=false∧outR x (l++[a])=outR x l++[a]:=by
 have h0:rltB a x=true:=rltB_iff.2 ha
 have h1:dnR x (l++[a])=false:=by rw[dnR_snoc,hd,h0];rfl
 refine⟨h1,?_⟩
 unfold outR
 rw[h1,hd,gtR_none h1,gtR_none hd,List.filter_append]
 simp[h0]
theorem outR_eq(hd:dnR x l=false):dnR x (l++[x])=true∧outR x (l++[x])=outR x l++[x]:=by
 have h0:rltB x x=false:=rltB_no.2 (rLt_irrefl x)
 have h1:dnR x (l++[x])=true:=by rw[dnR_snoc,h0];simp
 refine⟨h1,?_⟩
 unfold outR
 rw[h1,hd,gtR_none hd,List.filter_append,List.filter_append,gtR_none hd]
 simp[h0]
theorem outR_gt1(hd:dnR x l=false)(ha:rLt x a):dnR x (l++[a])=true∧outR x (l++[a])=(outR x l++[x])++[a]:=by
 have h0:rltB x a=true:=rltB_iff.2 ha
 have h2:rltB a x=false:=rltB_no.2 (rLt_asym ha)
 have h1:dnR x (l++[a])=true:=by rw[dnR_snoc,h2];simp
 refine⟨h1,?_⟩
 unfold outR
 rw[h1,hd,gtR_none hd,List.filter_append,List.filter_append,gtR_none hd]
 simp[h0,h2]
theorem outR_gt2(hd:dnR x l=true)(ha:rLt x a):dnR x (l++[a])=true∧outR x (l++[a])=outR x l++[a]:=by
 have h0:rltB x a=true:=rltB_iff.2 ha
 have h2:rltB a x=false:=rltB_no.2 (rLt_asym ha)
 have h1:dnR x (l++[a])=true:=by rw[dnR_snoc,hd];rfl
 refine⟨h1,?_⟩
 unfold outR
 rw[h1,hd,List.filter_append,List.filter_append]
 simp[h0,h2]
theorem outR_fin(l:List Rs):insR x l=if dnR x l then outR x l else outR x l++[x]:=by
 unfold insR outR
 cases h:dnR x l with
 | true=>simp
 | false=>rw[gtR_none h];simp
theorem outR_len(l:List Rs):(outR x l).length≤l.length+1:=by
 have h:=insR_len x l
 rw[outR_fin] at h
 split at h
 ·exact h
 ·rw[List.length_append] at h
  omega
theorem dnR_above{l:List Rs}{n:Nat}(hup:l.Pairwise rLt)(ha:l[n]?=some a)(hd:dnR x (l.take n)=true):rLt x a:=by
 unfold dnR at hd
 obtain⟨z,hz,hzx⟩:=List.any_eq_true.1 hd
 obtain⟨j,hj⟩:=List.mem_iff_getElem?.1 hz
 rw[List.getElem?_take] at hj
 by_cases hjn:j<n
 ·rw[if_pos hjn] at hj
  obtain⟨l1,e1⟩:=List.getElem?_eq_some_iff.1 hj
  obtain⟨l2,e2⟩:=List.getElem?_eq_some_iff.1 ha
  have h3:=List.pairwise_iff_getElem.1 hup j n l1 l2 hjn
  rw[e1,e2] at h3
  have h4:rltB z x=false:=by simpa using hzx
  rcases rLt_tot z x with k|k|k
  ·exact absurd k (rltB_no.1 h4)
  ·rw[k] at h3;exact h3
  ·exact rLt_trans k h3
 ·rw[if_neg hjn] at hj;cases hj
end
noncomputable def resP(l:List Lk):List Rs:=l.foldl (fun acc e=>insR e.r acc) []
theorem resP_snoc(l:List Lk)(e:Lk):resP (l++[e])=insR e.r (resP l):=by
 unfold resP
 rw[List.foldl_append];rfl
theorem snoc_all{α:Type}{P:List α→Prop}(h0:P [])(hs:∀l a,P l→P (l++[a]))(l:List α):P l:=by
 have h:∀m:List α,P m.reverse:=fun m=>by
  induction m with
  | nil=>exact h0
  | cons a m ih=>rw[List.reverse_cons];exact hs _ a ih
 rw[←List.reverse_reverse l];exact h _
theorem resP_all(l:List Lk):(resP l).Pairwise rLt∧(resP l).length≤l.length∧∀r,r∈resP l↔∃e∈l,e.r=r:=by
 refine snoc_all (P:=fun l=>(resP l).Pairwise rLt∧(resP l).length≤l.length∧∀r,r∈resP l↔∃e∈l,e.r=r) ⟨List.Pairwise.nil,Nat.le_refl _,fun r=>by simp[resP]⟩ (fun l e ih=>?_) l
 obtain⟨h1,h2,h3⟩:=ih
 rw[resP_snoc]
 refine⟨insR_up h1,?_,fun r=>?_⟩
 ·have:=insR_len e.r (resP l)
  rw[List.length_append,List.length_singleton];omega
 ·rw[insR_mem,h3]
  constructor
  ·rintro(h|⟨a,ha,h⟩)
   ·exact⟨e,by simp,h.symm⟩
   ·exact⟨a,by simp[ha],h⟩
  ·rintro⟨a,ha,h⟩
   rcases List.mem_append.1 ha with ha|ha
   ·exact .inr ⟨a,ha,h⟩
   ·simp at ha;subst ha;exact .inl h.symm
end
end Go.Proofs.YtadfaiciolfgjaaGreatDoor
