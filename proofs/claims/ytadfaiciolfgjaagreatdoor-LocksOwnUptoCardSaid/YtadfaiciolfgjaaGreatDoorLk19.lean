import Derived.Test.YtadfaiciolfgjaaGreatDoorLkA
namespace Go.Proofs.YtadfaiciolfgjaaGreatDoor
section
open Go.RowKit
noncomputable def wbs(x st:Int)(so:Gs×List Int)(y:Int):Gs×List Int:=match so.1.lv y with
 | some b=>if st<b.stamp then(so.1.setPt y (b.hit x),if b.hurt then so.2 else so.2++[y])else so
 | none=>so
noncomputable def wbL(x st:Int)(s:Gs)(l:List Int):Gs×List Int:=l.foldl (wbs x st) (s,[])
theorem wbL_nil(x st:Int)(s:Gs):wbL x st s []=(s,[]):=rfl
theorem wbL_snoc(x st:Int)(s:Gs)(l:List Int)(y:Int):wbL x st s (l++[y])=wbs x st (wbL x st s l) y:=by
 unfold wbL
 rw[List.foldl_append]
 rfl
structure Pt.like(x:Int)(b b':Pt):Prop where
 st:b'.stamp=b.stamp
 blk:b'.blk=b.blk
 hb:b'.hb=b.hb
 wb:b'.wb=b.wb
 hf:b'.hf=b.hf
 at_:b'.at_=b.at_
 goal:b'.goal=b.goal
 wd:∀z,b'.wd z=true→b.wd z=true∨z=x
 wd':∀z,b.wd z=true→b'.wd z=true
theorem Pt.like.refl(x:Int)(b:Pt):Pt.like x b b:=⟨rfl,rfl,rfl,rfl,rfl,rfl,rfl,fun _ h=>.inl h,fun _ h=>h⟩
theorem Pt.like.hit{x:Int}{b b':Pt}(h:Pt.like x b b'):Pt.like x b (b'.hit x):=⟨h.st,h.blk,h.hb,h.wb,h.hf,h.at_,h.goal,fun z q=>by
 simp only[Pt.hit,upd] at q
 split at q
 ·rename_i e;exact .inr e
 ·exact h.wd z q,fun z q=>by
 simp only[Pt.hit,upd]
 split
 ·rfl
 ·exact h.wd' z q⟩
theorem snoc_ind{P:List Int→Prop}(h0:P [])(h1:∀l y,P l→P (l++[y]))(l:List Int):P l:=by
 have key:∀l:List Int,P l.reverse:=fun l=>by
  induction l with
  | nil=>exact h0
  | cons y l ih=>
   rw[List.reverse_cons]
   exact h1 _ _ ih
 have:=key l.reverse
 rw[List.reverse_reverse] at this
 exact this
theorem wbs_keeps(x st:Int)(so:Gs×List Int)(y:Int):(wbs x st so y).1.own=so.1.own∧(wbs x st so y).1.pl=so.1.pl∧(wbs x st so y).1.lb=so.1.lb∧(wbs x st so y).1.pb=so.1.pb:=by
 unfold wbs
 split
 ·split<;>exact⟨rfl,rfl,rfl,rfl⟩
 ·exact⟨rfl,rfl,rfl,rfl⟩
theorem wbL_keeps(x st:Int)(s:Gs)(l:List Int):(wbL x st s l).1.own=s.own∧(wbL x st s l).1.pl=s.pl∧(wbL x st s l).1.lb=s.lb∧(wbL x st s l).1.pb=s.pb:=by
 refine snoc_ind (P:=fun l=>(wbL x st s l).1.own=s.own∧(wbL x st s l).1.pl=s.pl∧(wbL x st s l).1.lb=s.lb∧(wbL x st s l).1.pb=s.pb) ⟨rfl,rfl,rfl,rfl⟩ (fun l y ih=>?_) l
 ·rw[wbL_snoc]
  obtain⟨a,b,c,d⟩:=wbs_keeps x st (wbL x st s l) y
  exact⟨a.trans ih.1,b.trans ih.2.1,c.trans ih.2.2.1,d.trans ih.2.2.2⟩
theorem wbL_lv(x st:Int)(s:Gs)(l:List Int):∀z,(∀b,s.lv z=some b→∃b',(wbL x st s l).1.lv z=some b'∧Pt.like x b b')∧(s.lv z=none→(wbL x st s l).1.lv z=none):=by
 refine snoc_ind (P:=fun l=>∀z,(∀b,s.lv z=some b→∃b',(wbL x st s l).1.lv z=some b'∧Pt.like x b b')∧(s.lv z=none→(wbL x st s l).1.lv z=none)) (fun z=>⟨fun b h=>⟨b,h,.refl x b⟩,fun h=>h⟩) (fun l y ih=>?_) l
 ·intro z
  obtain⟨i1,i2⟩:=ih z
  rw[wbL_snoc]
  unfold wbs
  split
  ·rename_i b hb
   split
   ·refine⟨fun c hc=>?_,fun hn=>?_⟩
    ·by_cases e:z=y
     ·subst e
      obtain⟨b',h1,h2⟩:=i1 c hc
      rw[hb] at h1
      cases h1
      exact⟨_,by simp[Gs.setPt],h2.hit⟩
     ·obtain⟨b',h1,h2⟩:=i1 c hc
      exact⟨b',by simp only[Gs.setPt,upd,if_neg e];exact h1,h2⟩
    ·by_cases e:z=y
     ·subst e
      rw[i2 hn] at hb
      cases hb
     ·simp only[Gs.setPt,upd,if_neg e]
      exact i2 hn
   ·exact⟨i1,i2⟩
  ·exact⟨i1,i2⟩
end
end Go.Proofs.YtadfaiciolfgjaaGreatDoor
