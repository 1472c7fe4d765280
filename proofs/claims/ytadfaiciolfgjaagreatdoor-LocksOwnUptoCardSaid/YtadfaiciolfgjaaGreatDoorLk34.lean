import Derived.Lib.SlKeysI
import Derived.Shelf.SlIterI.Nil
import Derived.Shelf.SortM.Plain
import Derived.Shelf.SortM.SortNone
import Derived.Test.YtadfaiciolfgjaaGreatDoorLk43
import Derived.Test.YtadfaiciolfgjaaGreatDoorShK4
namespace Go.Proofs.YtadfaiciolfgjaaGreatDoor
open Go.Proofs.Tryz
set_option maxHeartbeats 1000000
set_option maxRecDepth 100000
section
open Go.RowKit Go.Maps Go.Sort Go.Shelf
theorem Mp.keysI{w:World}{b:Nat}{g:Int→Option Value}(h:Mp (fun n:Int=>I n) 3 w b g):∃(n:Nat) (D:DataW Value),w.ownsMap prog 3 hE b n D∧(intKeys D).Nodup∧(∀a,a∈intKeys D↔R64 a∧g a≠none)∧Maps.size D=(intKeys D).length:=by
 obtain⟨n,D,h1,h2⟩:=h
 have hk:=underlying3
 obtain⟨es,hD,hpw,_⟩:=h1.entries kyI.keyed
 obtain⟨es',hD',hko⟩:=h1.keysOf
 obtain rfl:es=es':=by rw[hD] at hD';simpa using hD'
 have hki:∀p∈es,∃x,p.1=.int .i64 x:=fun p hp=>by obtain⟨v,hv⟩:=hko p hp;obtain⟨x,_,hx,_⟩:=Maps.keyOf_i64 hk hv;exact⟨x,hx⟩
 refine⟨n,D,h1,?_,fun a=>?_,?_⟩
 ·rw[hD]
  show(es.map fun p=>_root_.Go.intOf p.1).Nodup
  refine List.pairwise_map.2 (hpw.imp_of_mem fun {p q} hp' hq' hne e=>hne ?_)
  obtain⟨a,ha⟩:=hki p hp'
  obtain⟨b,hb⟩:=hki q hq'
  rw[ha,hb] at e⊢
  exact congrArg _ e
 ·have hmem:a∈intKeys D↔Maps.has D (.int .i64 a)=true:=by
   rw[hD,has_eq,List.any_eq_true]
   show a∈es.map (fun p=>_root_.Go.intOf p.1)↔_
   rw[List.mem_map]
   constructor
   ·rintro⟨p,hp',rfl⟩
    obtain⟨x,hx⟩:=hki p hp'
    exact⟨p,hp',by rw[hx];simp[Lit.sameKey,_root_.Go.intOf]⟩
   ·rintro⟨p,hp',hs⟩
    obtain⟨x,hx⟩:=hki p hp'
    rw[hx] at hs
    exact⟨p,hp',by rw[hx];simpa [Lit.sameKey,_root_.Go.intOf] using hs⟩
  constructor
  ·intro ha
   have hr:R64 a:=wf_R64.1 (intKeys_wf h1 hk a ha)
   refine⟨hr,fun e=>?_⟩
   have h3:=h2 a _ (keyOf_int_mk hk (wf_R64.2 hr))
   have h4:=hmem.1 ha
   rw[getH_has h1,h3,e] at h4
   cases h4
  ·rintro⟨hr,hg⟩
   rw[hmem,getH_has h1,h2 a _ (keyOf_int_mk hk (wf_R64.2 hr))]
   cases hv:g a with
   | none=>exact absurd hv hg
   | some v=>rfl
 ·rw[hD]
  simp[intKeys,size_eq]
theorem keys_callP(W:World)(mb:Nat):Calls prog 82 #[.map (some mb)] W fun e W'=>e=.returned (.func (.func 103) #[] #[.pointer (some ⟨W.heap.size,0,none⟩)])∧W'=W.alloc (.cells #[.map (some mb)] 78):=(callsIn_wide (n:=5)).1 (AnyZI.keys_in Tryz.keysP Fence.wide 5 trivial rfl (some mb) W)
theorem sorted_callP(W:World)(mb:Nat)(g:Int→Option Value)(ids:List Int)(hm:Mp (fun n:Int=>I n) 3 W mb g)(hids:ids.Pairwise (·<·))(hmem:∀a,a∈ids↔R64 a∧g a≠none)(hlen:ids.length<4100000000000) :
  Calls prog 79 #[.func (.func 103) #[] #[.pointer (some ⟨W.heap.size,0,none⟩)]] (W.alloc (.cells #[.map (some mb)] 78)) fun e W'=>∃v,e=.returned v∧W'.ownsRow (W.alloc (.cells #[.map (some mb)] 78)).heap.size 3 1 v ids.length (ids.map fun z=>I z)∧G (W.alloc (.cells #[.map (some mb)] 78)) W':=by
 obtain⟨n,D,hown,hnd,hk,hsz⟩:=hm.keysI
 have hbl:=hown.lt
 have hlen2:(intKeys D).length=ids.length:=by
  have hidn:ids.Nodup:=hids.imp (fun h=>Int.ne_of_lt h)
  exact((List.perm_ext_iff_of_nodup hnd hidn).2 (fun a=>by rw[hk a,hmem a])).length_eq
 have hsz2:Maps.size D<4100000000000:=by omega
 have hmx:(4100000000000:Nat)≤maxLen:=of_decide_eq_true (by kernel_rfl)
 have hseq:SeqGives Fence.wide 2 prog 103 #[.pointer (some ⟨W.heap.size,0,none⟩)] encZ (fun ss=>ss.Perm (intKeys D)) (Maps.size D) (W.alloc (.cells #[.map (some mb)] 78)):=
  AnyZI.keys_gives (ρ:=Tryz.keysP_ren) {Tryz.keysP with} Fence.wide _ trivial rfl (by omega) W.heap.size mb n D _ (by simp) (by simp) (by
   obtain⟨es,clock,hb,Ft,hs,hD⟩:=hown
   exact⟨es,clock,(Below.heap_alloc _ _ mb hbl).trans hb,Ft,hs,hD⟩)
 have hsorts:∀m,AnyZI.SortsIn prog Tryz.sortedI_ren Fence.wide m:=fun m=>
  ⟨fun blk off cap ss W hH hblk hsz=>callsIn_wide.2 (AnyM.slices_Sort_int Tryz.sortI blk off cap ss W hH hblk hsz),
   fun p cap W=>callsIn_wide.2 (AnyM.slices_Sort_int_none Tryz.sortI p cap W)⟩
 have cS:=AnyZI.sorted_in Tryz.sortedI Fence.wide 5 trivial trivial trivial trivial rfl (by omega) (hsorts _) (enters_of func93 (by kernel_rfl) rfl) 103 #[.pointer (some ⟨W.heap.size,0,none⟩)] trivial (enters_of func103 (by kernel_rfl) rfl) _ _ (by omega) (by omega) _ hseq
 change CallsIn _ _ prog 79 _ _ _ at cS
 refine((callsIn_wide (n:=5)).1 cS).mono ?_
 rintro e w' ⟨v,ss,rfl,hS,hrow,hnil,hb⟩
 have he:ss.mergeSort (fun x y=>decide (x≤y))=ids:=by
  have p1:(ss.mergeSort (fun x y=>decide (x≤y))).Perm ids:=(List.mergeSort_perm _ _).trans (hS.trans ((List.perm_ext_iff_of_nodup hnd (hids.imp (fun h=>Int.ne_of_lt h))).2 (fun a=>by rw[hk a,hmem a])))
  have s1:(ss.mergeSort (fun x y=>decide (x≤y))).Pairwise (fun x y=>decide (x≤y)=true):=List.pairwise_mergeSort (fun a b c h1 h2=>by simp at *;omega) (fun a b=>by simp;omega) ss
  exact List.Perm.eq_of_pairwise (le:=fun x y:Int=>decide (x≤y)=true) (fun a b _ _ h1 h2=>by simp at h1 h2;omega) s1 (hids.imp (fun h=>by simp;omega)) p1
 have hl3:ss.length=ids.length:=by rw[←he,List.length_mergeSort]
 refine⟨v,rfl,?_,hb⟩
 rw[he,hl3] at hrow
 exact hrow
theorem keys_callM(W:World)(mb:Nat):Calls prog 80 #[.map (some mb)] W fun e W'=>e=.returned (.func (.func 102) #[] #[.pointer (some ⟨W.heap.size,0,none⟩)])∧W'=W.alloc (.cells #[.map (some mb)] 107):=(callsIn_wide (n:=5)).1 (AnyZI.keys_in Tryz.keysM Fence.wide 5 trivial rfl (some mb) W)
theorem sorted_callM(W:World)(mb:Nat)(g:Int→Option Value)(ids:List Int)(hm:Mp (fun n:Int=>I n) 3 W mb g)(hids:ids.Pairwise (·<·))(hmem:∀a,a∈ids↔R64 a∧g a≠none)(hlen:ids.length<4100000000000) :
  Calls prog 79 #[.func (.func 102) #[] #[.pointer (some ⟨W.heap.size,0,none⟩)]] (W.alloc (.cells #[.map (some mb)] 107)) fun e W'=>∃v,e=.returned v∧W'.ownsRow (W.alloc (.cells #[.map (some mb)] 107)).heap.size 3 1 v ids.length (ids.map fun z=>I z)∧G (W.alloc (.cells #[.map (some mb)] 107)) W':=by
 obtain⟨n,D,hown,hnd,hk,hsz⟩:=hm.keysI
 have hbl:=hown.lt
 have hlen2:(intKeys D).length=ids.length:=by
  have hidn:ids.Nodup:=hids.imp (fun h=>Int.ne_of_lt h)
  exact((List.perm_ext_iff_of_nodup hnd hidn).2 (fun a=>by rw[hk a,hmem a])).length_eq
 have hsz2:Maps.size D<4100000000000:=by omega
 have hmx:(4100000000000:Nat)≤maxLen:=of_decide_eq_true (by kernel_rfl)
 have hseq:SeqGives Fence.wide 2 prog 102 #[.pointer (some ⟨W.heap.size,0,none⟩)] encZ (fun ss=>ss.Perm (intKeys D)) (Maps.size D) (W.alloc (.cells #[.map (some mb)] 107)):=
  AnyZI.keys_gives (ρ:=Tryz.keysM_ren) {Tryz.keysM with} Fence.wide _ trivial rfl (by omega) W.heap.size mb n D _ (by simp) (by simp) (by
   obtain⟨es,clock,hb,Ft,hs,hD⟩:=hown
   exact⟨es,clock,(Below.heap_alloc _ _ mb hbl).trans hb,Ft,hs,hD⟩)
 have hsorts:∀m,AnyZI.SortsIn prog Tryz.sortedI_ren Fence.wide m:=fun m=>
  ⟨fun blk off cap ss W hH hblk hsz=>callsIn_wide.2 (AnyM.slices_Sort_int Tryz.sortI blk off cap ss W hH hblk hsz),
   fun p cap W=>callsIn_wide.2 (AnyM.slices_Sort_int_none Tryz.sortI p cap W)⟩
 have cS:=AnyZI.sorted_in Tryz.sortedI Fence.wide 5 trivial trivial trivial trivial rfl (by omega) (hsorts _) (enters_of func93 (by kernel_rfl) rfl) 102 #[.pointer (some ⟨W.heap.size,0,none⟩)] trivial (enters_of func102 (by kernel_rfl) rfl) _ _ (by omega) (by omega) _ hseq
 change CallsIn _ _ prog 79 _ _ _ at cS
 refine((callsIn_wide (n:=5)).1 cS).mono ?_
 rintro e w' ⟨v,ss,rfl,hS,hrow,hnil,hb⟩
 have he:ss.mergeSort (fun x y=>decide (x≤y))=ids:=by
  have p1:(ss.mergeSort (fun x y=>decide (x≤y))).Perm ids:=(List.mergeSort_perm _ _).trans (hS.trans ((List.perm_ext_iff_of_nodup hnd (hids.imp (fun h=>Int.ne_of_lt h))).2 (fun a=>by rw[hk a,hmem a])))
  have s1:(ss.mergeSort (fun x y=>decide (x≤y))).Pairwise (fun x y=>decide (x≤y)=true):=List.pairwise_mergeSort (fun a b c h1 h2=>by simp at *;omega) (fun a b=>by simp;omega) ss
  exact List.Perm.eq_of_pairwise (le:=fun x y:Int=>decide (x≤y)=true) (fun a b _ _ h1 h2=>by simp at h1 h2;omega) s1 (hids.imp (fun h=>by simp;omega)) p1
 have hl3:ss.length=ids.length:=by rw[←he,List.length_mergeSort]
 refine⟨v,rfl,?_,hb⟩
 rw[he,hl3] at hrow
 exact hrow
theorem keys_callW(W:World)(mb:Nat):Calls prog 85 #[.map (some mb)] W fun e W'=>e=.returned (.func (.func 106) #[] #[.pointer (some ⟨W.heap.size,0,none⟩)])∧W'=W.alloc (.cells #[.map (some mb)] 61):=(callsIn_wide (n:=5)).1 (AnyZI.keys_in Tryz.keysW Fence.wide 5 trivial rfl (some mb) W)
theorem sorted_callW(W:World)(mb:Nat)(g:Int→Option Value)(ids:List Int)(hm:Mp (fun n:Int=>I n) 3 W mb g)(hids:ids.Pairwise (·<·))(hmem:∀a,a∈ids↔R64 a∧g a≠none)(hlen:ids.length<4100000000000) :
  Calls prog 79 #[.func (.func 106) #[] #[.pointer (some ⟨W.heap.size,0,none⟩)]] (W.alloc (.cells #[.map (some mb)] 61)) fun e W'=>∃v,e=.returned v∧W'.ownsRow (W.alloc (.cells #[.map (some mb)] 61)).heap.size 3 1 v ids.length (ids.map fun z=>I z)∧G (W.alloc (.cells #[.map (some mb)] 61)) W':=by
 obtain⟨n,D,hown,hnd,hk,hsz⟩:=hm.keysI
 have hbl:=hown.lt
 have hlen2:(intKeys D).length=ids.length:=by
  have hidn:ids.Nodup:=hids.imp (fun h=>Int.ne_of_lt h)
  exact((List.perm_ext_iff_of_nodup hnd hidn).2 (fun a=>by rw[hk a,hmem a])).length_eq
 have hsz2:Maps.size D<4100000000000:=by omega
 have hmx:(4100000000000:Nat)≤maxLen:=of_decide_eq_true (by kernel_rfl)
 have hseq:SeqGives Fence.wide 2 prog 106 #[.pointer (some ⟨W.heap.size,0,none⟩)] encZ (fun ss=>ss.Perm (intKeys D)) (Maps.size D) (W.alloc (.cells #[.map (some mb)] 61)):=
  AnyZI.keys_gives (ρ:=Tryz.keysW_ren) {Tryz.keysW with} Fence.wide _ trivial rfl (by omega) W.heap.size mb n D _ (by simp) (by simp) (by
   obtain⟨es,clock,hb,Ft,hs,hD⟩:=hown
   exact⟨es,clock,(Below.heap_alloc _ _ mb hbl).trans hb,Ft,hs,hD⟩)
 have hsorts:∀m,AnyZI.SortsIn prog Tryz.sortedI_ren Fence.wide m:=fun m=>
  ⟨fun blk off cap ss W hH hblk hsz=>callsIn_wide.2 (AnyM.slices_Sort_int Tryz.sortI blk off cap ss W hH hblk hsz),
   fun p cap W=>callsIn_wide.2 (AnyM.slices_Sort_int_none Tryz.sortI p cap W)⟩
 have cS:=AnyZI.sorted_in Tryz.sortedI Fence.wide 5 trivial trivial trivial trivial rfl (by omega) (hsorts _) (enters_of func93 (by kernel_rfl) rfl) 106 #[.pointer (some ⟨W.heap.size,0,none⟩)] trivial (enters_of func106 (by kernel_rfl) rfl) _ _ (by omega) (by omega) _ hseq
 change CallsIn _ _ prog 79 _ _ _ at cS
 refine((callsIn_wide (n:=5)).1 cS).mono ?_
 rintro e w' ⟨v,ss,rfl,hS,hrow,hnil,hb⟩
 have he:ss.mergeSort (fun x y=>decide (x≤y))=ids:=by
  have p1:(ss.mergeSort (fun x y=>decide (x≤y))).Perm ids:=(List.mergeSort_perm _ _).trans (hS.trans ((List.perm_ext_iff_of_nodup hnd (hids.imp (fun h=>Int.ne_of_lt h))).2 (fun a=>by rw[hk a,hmem a])))
  have s1:(ss.mergeSort (fun x y=>decide (x≤y))).Pairwise (fun x y=>decide (x≤y)=true):=List.pairwise_mergeSort (fun a b c h1 h2=>by simp at *;omega) (fun a b=>by simp;omega) ss
  exact List.Perm.eq_of_pairwise (le:=fun x y:Int=>decide (x≤y)=true) (fun a b _ _ h1 h2=>by simp at h1 h2;omega) s1 (hids.imp (fun h=>by simp;omega)) p1
 have hl3:ss.length=ids.length:=by rw[←he,List.length_mergeSort]
 refine⟨v,rfl,?_,hb⟩
 rw[he,hl3] at hrow
 exact hrow
end
section
open Go.RowKit
theorem turn_le(q:Pl)(x:Int):turnN q x≤q.qs.length:=by
 unfold turnN
 split
 ·exact Nat.le_refl _
 ·exact upN_le q.hf q.qs
theorem inW_put{hf:Int→Int}{qs:List (Int×Int)}{a:Nat}{x m y:Int}(ha:a≤qs.length):inW hf (putQ qs a x m) x m a y↔inW hf qs x m a y:=by
 have e:∀i,i<a→(putQ qs a x m)[i]?=qs[i]?:=fun i hi=>by
  unfold putQ
  rw[List.getElem?_append_left (by rw[List.length_take];omega),List.getElem?_take,if_pos hi]
 unfold inW inW2
 constructor
 ·rintro(h|⟨i,g,hi,h,h2⟩)
  ·exact .inl h
  ·exact .inr ⟨i,g,hi,by rw[e i hi] at h;exact h,h2⟩
 ·rintro(h|⟨i,g,hi,h,h2⟩)
  ·exact .inl h
  ·exact .inr ⟨i,g,hi,by rw[e i hi];exact h,h2⟩
theorem outL_le(s:Gs)(qm x:Int)(p:Pt)(l:List (Int×Int)):(outL s qm x p l).length≤1:=by
 unfold outL
 split<;>simp
theorem own_lo{w:World}{b b' e k n:Nat}{v:Value}{xs:List Value}(h:w.ownsRow b e k v n xs)(hb:b'≤b):w.ownsRow b' e k v n xs:=by
 refine⟨h.1,?_⟩
 rcases h.2 with h3|⟨g,cap,cur,e,hb2,rest⟩
 ·exact .inl h3
 ·exact .inr ⟨g,cap,cur,e,Nat.le_trans hb hb2,rest⟩
theorem app_rows2(w:World)(lo lo2:Nat)(u v:Value)(ys zs:List Int)(hu:w.ownsRow lo 3 1 u ys.length (ys.map fun z=>I z))(hv:w.ownsRow lo2 3 1 v zs.length (zs.map fun z=>I z))(hl:ys.length+zs.length<4100000000000)(hlo:lo≤w.heap.size) :
  ∃v' w',(Builtin.append_ #[42,42] 42 #[u,v]).run prog w=.ok v' w'∧w'.ownsRow lo 3 1 v' (ys++zs).length ((ys++zs).map fun z=>I z)∧w.grownBy w' u.ownBlock:=by
 obtain⟨i0,hi,hz0,hz1,hz2⟩:=info_parts (show(prog.info? 3).map (fun i=>(i.zero,i.size,i.bytes))=some (some (.int .i64 0),1,8)from by kernel_rfl)
 have hmx:(4100000000000:Nat)≤maxLen:=of_decide_eq_true (by kernel_rfl)
 rcases hv.2 with ⟨rfl,h0⟩|⟨g,cap,cur,rfl,-⟩
 ·have hz:zs=[]:=List.eq_nil_of_length_eq_zero h0
  subst hz
  rw[List.append_nil]
  exact⟨u,w,run_append_owned_none w lo 42 42 3 i0 1 underlying42 hi u _ _ hu,hu,⟨rfl,rfl,rfl,Nat.le_refl _,fun _ _ _=>rfl⟩⟩
 ·obtain⟨v',w9,q1,q2,q3,-,-⟩:=run_append_own_at (P:=prog) (w:=w) lo 42 42 3 i0 _ 1 8 underlying42 hi hz0 hz1 hz2 rfl (by decide) u _ _ hu ⟨g,0,none⟩ zs.length cap (zs.map fun z=>I z) (by simp) (fun j u hj=>by
   have hjl:j<zs.length:=by
    have:=(List.getElem?_eq_some_iff.1 hj).1
    simpa using this
   have:=hv.cellAt j (by omega)
   rw[hj] at this
   by_cases hj0:j=0
   ·subst hj0;simpa [Addr.add] using this
   ·simpa [Addr.add,hj0] using this) (fun u hu=>by
   obtain⟨z,-,e⟩:=List.mem_map.1 hu
   rw[←e];rfl) (by omega) (by omega) hlo
  refine⟨v',w9,q1,?_,q3⟩
  rw[List.length_append,List.map_append]
  exact q2
theorem sl_drop{w:World}{t:Nat}{s:Gs}{r:Rs}{q:Pl}{x:Int}{wb a qcap:Nat}{qa ba:Option Addr}(h:TT w t s)(hq:s.pl r=some q)(hqv:q.q=.slice qa q.qs.length qcap)(ha:a≤q.qs.length)(hba:ba=(if qcap=a then qa else Option.map (fun x=>x.add (a*2)) qa))(hwb:s.own wb=some (.pw x)):SlB w (fun k=>k=wb) (.slice ba (q.qs.length-a) (qcap-a)) (q.qs.drop a):=by
 refine⟨ba,qcap-a,by rw[List.length_drop],?_⟩
 have hp:=h.pl r q hq
 by_cases he:a=q.qs.length
 ·exact .inl (by rw[he,List.drop_length])
 refine .inr ?_
 have hQ:=hp.q
 rw[hqv] at hQ
 rcases hQ with ⟨e,e2⟩|⟨g,cap,rest,e,hb,hl,hm⟩
 ·rw[e2] at ha he;simp at ha;exact absurd ha he
 have e2:=e
 simp only[Value.slice.injEq] at e2
 obtain⟨e3,-,e4⟩:=e2
 have hc:¬qcap=a:=by omega
 rw[if_neg hc,e3] at hba
 have hob:q.q.ownBlock=some g:=by rw[hqv,e3];rfl
 refine⟨g,a*2,by rw[hba];show some (Addr.add ⟨g,0,none⟩ (a*2))=_;rw[Addr.add_mid,Nat.zero_add],hb.lt,fun e5=>?_,fun i o ho=>?_⟩
 ·have:=hp.t3 g hob
  rw[e5,hwb] at this
  cases this
 ·have h2:q.qs[a+i]?=some o:=by rw[List.getElem?_drop] at ho;exact ho
  have h3:QSl w (.slice (some ⟨g,0,none⟩) q.qs.length cap) q.qs:=.inr ⟨g,cap,rest,rfl,hb,hl,hm⟩
  have h4:=h3.at h2
  rw[Nat.add_mul] at h4
  exact h4
def AskR(t:Nat)(s:Gs)(w:World)(x m:Int)(r:Rs)(p:Pt)(s1:Gs)(q:Pl)(u:Value)(e:Ending)(w':World):Prop:=
 ∃(a:Nat) (PA:Pt) (ol:List Int),a=turnN q x∧PA=hitsL s1 m p (q.qs.drop a)∧ol=outL s1 m x p (q.qs.drop a)∧
  ((blkB q x m a=false∧e=.returned (.tuple #[I 1,u])∧w'.ownsRow w.heap.size 3 1 u ol.length (ol.map fun z=>I z)∧TT w' t (((s1.setPt x PA).setPl r (q.hold x m)).setPt x (PA.hold r m).rest)∧Ext w w' s (((s1.setPt x PA).setPl r (q.hold x m)).setPt x (PA.hold r m).rest))∨
   (blkB q x m a=true∧∃(s2:Gs) (q2:Pl) (s4:Gs) (zs:List Int),e=.returned (.tuple #[I 2,u])∧w'.ownsRow w.heap.size 3 1 u (ol++zs).length ((ol++zs).map fun z=>I z)∧s2.lv=(s1.setPt x PA).lv∧s2.pl=upd s1.pl r (some q2)∧q2.hf=q.hf∧q2.qs=putQ q.qs a x m∧WbD x {PA with at_:=r,goal:=m} (s2.setPt x {PA with at_:=r,goal:=m}) (inW q.hf q.qs x m a) zs s4∧TT w' t s4∧Ext w w' s s4))
theorem ask_gen(t:Nat)(s:Gs)(x m:Int)(r:Rs)(p:Pt)(w:World)(PP:Gs→Pl→Prop)(h:TT w t s)(ht:Tb w)(hgl:s.own 1=none∧s.own 0=none)(hx:R64 x)(hp:s.lv x=some p)(hwR:∀y,p.wd y=true→R64 y)
  (KP:∀wA,TT wA t s→Calls prog 54 #[ptr t,r.v] wA fun e w'=>∃s1 q,e=.returned (ptr q.blk)∧TT w' t s1∧s1.pl r=some q∧s1.lv=s.lv∧Ext wA w' s s1∧PP s1 q)
  (LW:List Int) (hLW:∀y,p.wd y=true→y∈LW) (hlw:LW.length<maxLen) (Lh:List Int) (hLh:∀s1 q,PP s1 q→∀z,q.hf z≠0→z∈Lh∧R64 z) (hlh:Lh.length<maxLen) (hQL:∀s1 q,PP s1 q→q.qs.length<4100000000000) (LWa:List Int) (hWY:∀s1 q,PP s1 q→∀y,inW q.hf q.qs x m (turnN q x) y→y≠x∧R64 y∧∃b,s.lv y=some b∧∀z,b.wd z=true→R64 z∧z∈LWa) (hxw:x∈LWa) (hlwa:LWa.length<maxLen) (hbig:∀s1 q,PP s1 q→Lh.length+q.qs.length+2<4100000000000) (LR:List Rs) (hLR:∀z,p.hf z≠0→z∈LR) (hlr:LR.length<maxLen) (hr:r.ok) (hm0:m≠0)
  (hPP:∀s1 q,PP s1 q→(∀o∈q.qs,R64 o.1)∧q.qs.length≤maxLen) (hBE:∀s1 q,PP s1 q→∀o∈q.qs,o.1≠x∧R64 o.1∧(∃b,s.lv o.1=some b∧∀y,b.wd y=true→R64 y)∧o.1∈LW) :
  Calls prog 21 #[ptr t,r.v,.agg #[I x,I m]] w fun e w'=>∃s1 q u,PP s1 q∧AskR t s w x m r p s1 q u e w':=by
 have gA:G w ((w.alloc (.cells #[I r.lv,.string r.lb,I r.id] 33)).alloc (.cells #[I x,I m] 68)):=((G.refl w).alloc _).alloc _
 have k4:=(Blk.new w [I r.lv,.string r.lb,I r.id] 33).G ((G.refl _).alloc (.cells #[I x,I m] 68))
 have k5:=Blk.new (w.alloc (.cells #[I r.lv,.string r.lb,I r.id] 33)) [I x,I m] 68
 rw[World.size_alloc] at k5
 have c4:=k4.cell
 have HK:=hide (KP _ (h.G gA))
 have HGA:=hide gA
 have HK4:=hide k4
 have HK5:=hide k5
 have HT:=hide h;have HTB:=hide ht;have HGL:=hide hgl;have HX:=hide hx;have HP:=hide hp;have HWR:=hide hwR;have HPP:=hide hPP;have HBE:=hide hBE;have HQL:=hide hQL;have HWY:=hide hWY;have HXW:=hide hxw;have HLWA:=hide hlwa;have HBIG:=hide hbig;have HLW:=hide hLW;have HLWL:=hide hlw;have HLH:=hide hLh;have HLHL:=hide hlh;have HLR:=hide hLR;have HLRL:=hide hlr;have HRO:=hide hr;have HM0:=hide hm0
 have HNO:Hid (∀b,w.heap.size≤b→¬s.own b≠none):=fun b hb hn=>by
  cases e:s.own b with
  | none=>exact hn e
  | some tg=>have:=h.lt b tg e;omega
 clear gA k4 k5 h ht hgl hx hp hwR hPP hBE hQL hWY hxw hlwa hbig KP hLW hlw hLh hlh hLR hlr hr hm0
 simp only[Rs.v] at HK⊢
 go_enter func21,ntmps21
 go_wp2_with fail
 generalize (w.alloc (.cells #[I r.lv,.string r.lb,I r.id] 33)).alloc (.cells #[I x,I m] 68)=wA at *
 go_wp2_with (first
  | (
    go_at_call 54
    with_reducible refine(HK.out).mono ?_
    rintro e w1 ⟨s1,q,rfl,hT1,hq1,hl1,hE1,hPq⟩
    have HE1:=hide hE1
    have HB4:=hide (HK4.out.chg hE1.chg (HNO.out w.heap.size (Nat.le_refl _)))
    have HB5:=hide (HK5.out.chg hE1.chg (HNO.out (w.heap.size+1) (by omega)))
    have c5:=HB5.out.cell
    obtain⟨hq64,hlq⟩:=HPP.out s1 q hPq
    have hpl:=hT1.pl r q hq1
    have KT:=hide (turn_any q x w1 HX.out hq64 hlq hpl.blk hpl.hm hpl.q)
    have haq0:=turn_le q x
    have HBW:=hide (HWY.out s1 q hPq)
    obtain⟨a,ha⟩:∃a,a=turnN q x:=⟨_,rfl⟩
    rw[←ha] at KT haq0 HBW
    have HAE:=hide ha
    have HAQ:=hide haq0
    clear ha haq0
    have HT1:=hide hT1;have HQ1:=hide hq1;have HL1:=hide hl1;have HPq:=hide hPq;have HQ64:=hide hq64;have HLQ:=hide hlq;have HPL:=hide hpl
    clear hT1 hq1 hl1 hPq hq64 hlq hpl hE1 c4 HK)
  | (go_at_call 55;with_reducible refine(KT.out).mono ?_;rintro e w2 ⟨rfl,hg2⟩)
  | fail)
 obtain⟨qa,qcap,hqv,hqn⟩:∃a c,q.q=.slice a q.qs.length c∧(a=none→c=0∧q.qs=[])∧q.qs.length≤c:=by
  rcases HPL.out.q with ⟨e,e2⟩|⟨g,cap,rest,e,-,hl,-⟩
  ·rw[e2];exact⟨none,0,e,(fun _=>⟨rfl,rfl⟩),Nat.le_refl _⟩
  ·exact⟨_,cap,e,(fun e=>by cases e),by omega⟩
 have HG2:=hide hg2
 have HS3:Hid ((fun V=>(∀o,V.cell? ⟨w.heap.size+1,o,none⟩=([I x,I m]:List Value)[o]?)∧(∀o,V.cell? ⟨q.blk,o,none⟩=([.map (some q.hb),.slice qa q.qs.length qcap]:List Value)[o]?)) w2.drew):=⟨(HB5.out.G hg2.drew).cell,by
  have:=(HPL.out.blk.G hg2.drew).cell
  rw[hqv] at this
  exact this⟩
 clear hg2 c5
 have hqc:=hqn.2
 have HQV:=hide hqv
 have hp1:s1.lv x=some p:=by rw[HL1.out];exact HP.out
 have HP1:=hide hp1
 have HNO1:Hid (∀b,w.heap.size≤b→b<wA.heap.size→¬s1.own b≠none):=fun b hb hlt hn=>by
  cases e:s1.own b with
  | none=>exact hn e
  | some tg=>
   rcases HE1.out.new b tg e with e2|e2
   ·exact HNO.out b hb (by rw[e2];simp)
   ·omega
 have hgl1:s1.own 1=none∧s1.own 0=none:=by
  have hlf:=(HTB.out.G HGA.out).lf
  have hlj:=(HTB.out.G HGA.out).lj
  constructor
  ·cases e:s1.own 1 with
   | none=>rfl
   | some tg=>
    rcases HE1.out.new _ tg e with e2|e2
    ·rw[HGL.out.1] at e2;cases e2
    ·omega
  ·cases e:s1.own 0 with
   | none=>rfl
   | some tg=>
    rcases HE1.out.new _ tg e with e2|e2
    ·rw[HGL.out.2] at e2;cases e2
    ·omega
 have HTB1:Hid (Tb w1):=by
  have hA:=HTB.out.G HGA.out
  exact hA.keep (HE1.out.chg.block _ hA.lf (fun e=>e HGL.out.1)) (HE1.out.chg.block _ hA.lj (fun e=>e HGL.out.2)) HE1.out.chg.size
 have HGL1:=hide hgl1
 obtain⟨ba,hba⟩:∃ba,ba=(if qcap=a then qa else Option.map (fun x=>x.add (a*2)) qa):=⟨_,rfl⟩
 have HBA:=hide hba
 clear hba
 have haI:(a:Int)≤(q.qs.length:Int):=by have:=HAQ.out;omega
 have hsl:SlB w2.drew (fun k=>k=p.wb) (.slice ba (q.qs.length-a) (qcap-a)) (q.qs.drop a):=sl_drop (HT1.out.G HG2.out.drew) HQ1.out HQV.out HAQ.out HBA.out (HT1.out.pt x p hp1).t3
 have KW:=hide (wa_any t s1 x m p (.slice ba (q.qs.length-a) (qcap-a)) (q.qs.drop a) w2.drew (HT1.out.G HG2.out.drew) (HTB1.out.G HG2.out.drew) hp1 hgl1 HX.out hsl (by rw[List.length_drop];have:=HLQ.out;omega) (fun o ho=>by
  obtain⟨b1,b2,b3,-⟩:=HBE.out s1 q HPq.out o (List.mem_of_mem_drop ho)
  exact⟨b1,b2,by rw[HL1.out];exact b3⟩) HWR.out LW HLW.out (fun o ho=>(HBE.out s1 q HPq.out o (List.mem_of_mem_drop ho)).2.2.2) HLWL.out)
 clear hqv hp1 hgl1 hqn hsl
 refine wp_region_noPanic ?_
 refine wp_region_held_drew (S:=(fun V=>(∀o,V.cell? ⟨w.heap.size+1,o,none⟩=([I x,I m]:List Value)[o]?)∧(∀o,V.cell? ⟨q.blk,o,none⟩=([.map (some q.hb),.slice qa q.qs.length qcap]:List Value)[o]?))) (by kernel_rfl) (HS3.out) (fun hHeld=>?_)
 refine wpAnyH_take (i:=0) (v:=?_) rfl (by kernel_rfl) (by kernel_rfl) (by kernel_rfl) (fun _ _ _ h=>h) (Or.inl ⟨by rfl,?_⟩) hHeld ?_
 rotate_left 1
 ·(intro w hSw;obtain⟨q1,q2⟩:=hSw;go_simp;try with_reducible rfl)
 try simp only[Act.put,zzA,zzB,zzD,zzE,zzF]
 refine wpAnyH_take (i:=1) (v:=?_) rfl (by kernel_rfl) (by kernel_rfl) (by kernel_rfl) (fun _ _ _ h=>h) (Or.inl ⟨by rfl,?_⟩) hHeld ?_
 rotate_left 1
 ·(intro w hSw;obtain⟨q1,q2⟩:=hSw;go_simp;try with_reducible rfl)
 try simp only[Act.put,zzA,zzB,zzC,zzD,zzE,zzF]
 refine wpAnyH_take (i:=2) (v:=?_) rfl (by kernel_rfl) (by kernel_rfl) (by kernel_rfl) (fun _ _ _ h=>h) (Or.inl ⟨by rfl,?_⟩) hHeld ?_
 rotate_left 1
 ·(intro w hSw;obtain⟨q1,q2⟩:=hSw;go_simp;try with_reducible rfl)
 try simp only[Act.put,zzA,zzB,zzC,zzD,zzE,zzF]
 refine wpAnyH_take (i:=3) (v:=?_) rfl (by kernel_rfl) (by kernel_rfl) (by kernel_rfl) (fun _ _ _ h=>h) (Or.inl ⟨by rfl,?_⟩) hHeld ?_
 rotate_left 1
 ·(intro w hSw;obtain⟨q1,q2⟩:=hSw;go_simp;try with_reducible rfl)
 try simp only[Act.put,zzA,zzB,zzC,zzD,zzE,zzF]
 refine wpAnyH_take (i:=4) (v:=?_) rfl (by kernel_rfl) (by kernel_rfl) (by kernel_rfl) (fun _ _ _ h=>h) (Or.inl ⟨by rfl,?_⟩) hHeld ?_
 rotate_left 1
 ·(intro w hSw;obtain⟨q1,q2⟩:=hSw;go_simp;try with_reducible rfl)
 try simp only[Act.put,zzA,zzB,zzC,zzD,zzE,zzF]
 refine wpAnyH_take (i:=5) (v:=?_) rfl (by kernel_rfl) (by kernel_rfl) (by kernel_rfl) (fun _ _ _ h=>h) (Or.inl ⟨by rfl,?_⟩) hHeld ?_
 rotate_left 1
 ·(intro w hSw;obtain⟨q1,q2⟩:=hSw;go_simp;try with_reducible rfl)
 try simp only[Act.put,zzA,zzB,zzC,zzD,zzE,zzF]
 refine wpAnyH_take (i:=6) (v:=?_) rfl (by kernel_rfl) (by kernel_rfl) (by kernel_rfl) (fun _ _ _ h=>h) (Or.inl ⟨by rfl,?_⟩) hHeld ?_
 rotate_left 1
 ·(intro w hSw;obtain⟨q1,q2⟩:=hSw;go_simp;try with_reducible rfl)
 try simp only[Act.put,zzA,zzB,zzC,zzD,zzE,zzF]
 refine wpAnyH_take (i:=7) (v:=(.slice ba (q.qs.length-a) (qcap-a))) rfl (by kernel_rfl) (by kernel_rfl) (by kernel_rfl) (fun _ _ _ h=>h) (Or.inl ⟨by rfl,?_⟩) hHeld ?_
 ·(intro w hSw;obtain⟨q1,q2⟩:=hSw;go_simp;rw[HBA.out])
 try simp only[Act.put,zzA,zzB,zzC,zzD,zzE,zzF]
 refine wpAnyH_ready (rs:=[8]) (by kernel_rfl) (by simp) (AllReadyH.cons rfl (fun K hK=>?_) AllReadyH.nil)
 clear hHeld
 go_simp
 with_reducible refine(KW.out).mono ?_
 rintro e w3 ⟨u,rfl,hu,hT3,hE3,hC3⟩
 obtain⟨e1,e2,e3,e4,e5,e6⟩:=hitsL_same s1 m p (q.qs.drop a)
 have ewd:∀y,(hitsL s1 m p (q.qs.drop a)).wd y=true→R64 y:=fun y hy=>(hitsL_wd s1 m p (q.qs.drop a) hy).elim (HWR.out y) (fun ⟨o,h1,h2⟩=>h2▸(HBE.out s1 q HPq.out o (List.mem_of_mem_drop h1)).2.1)
 obtain⟨PA,hPA⟩:∃PA,PA=hitsL s1 m p (q.qs.drop a):=⟨_,rfl⟩
 rw[←hPA] at hT3 hE3 e1 e2 e3 e4 e5 e6 ewd
 obtain⟨ol,hol⟩:∃ol,ol=outL s1 m x p (q.qs.drop a):=⟨_,rfl⟩
 rw[←hol] at hu
 have HPA:=hide hPA
 have HOL:=hide hol
 have HE1':=hide e1
 have HE2':=hide e2
 have HE5':=hide e5
 have HE6':=hide e6
 have HEW:=hide ewd
 clear hPA hol e1 e2 e3 e4 e5 e6 ewd
 have HU:=hide hu
 have HT3:=hide hT3
 have HE3:=hide hE3
 have HB43:=hide ((HB4.out.G HG2.out.drew).chg hE3.chg (HNO1.out w.heap.size (Nat.le_refl _) HK4.out.lt))
 have HB53:=hide ((HB5.out.G HG2.out.drew).chg hE3.chg (HNO1.out (w.heap.size+1) (by omega) HK5.out.lt))
 clear hu hT3 hE3 hC3
 go_wp2_with fail
 refine hK.out _ _ (⟨HB53.out.cell,by have:=(HT3.out.pl r q HQ1.out).blk.cell;rw[HQV.out] at this;exact this⟩) (fun hHeld=>?_)
 clear hK K
 try simp only[Act.put,zzA,zzB,zzC,zzD,zzE,zzF]
 refine wpAnyH_take (i:=9) (v:=?_) rfl (by kernel_rfl) (by kernel_rfl) (by kernel_rfl) (fun _ _ _ h=>h) (Or.inl ⟨by rfl,?_⟩) hHeld ?_
 rotate_left 1
 ·(intro w hSw;obtain⟨q1,q2⟩:=hSw;go_simp;try with_reducible rfl)
 try simp only[Act.put,zzA,zzB,zzC,zzD,zzE,zzF]
 refine wpAnyH_done (by kernel_rfl) ?_ _
 refine NoPanic.normal ?_
 have HTB3:Hid (Tb w3):=by
  have hA:=HTB1.out.G HG2.out.drew
  exact hA.keep (HE3.out.chg.block _ hA.lf (fun e=>e HGL1.out.1)) (HE3.out.chg.block _ hA.lj (fun e=>e HGL1.out.2)) HE3.out.chg.size
 have hpl3:PlOk w3 s1.own r q:=HT3.out.pl r q HQ1.out
 have KB:=hide (blocks_any q x m a Lh w3 HAQ.out (fun z hz=>(HLH.out s1 q HPq.out z hz).1) (fun z hz=>(HLH.out s1 q HPq.out z hz).2) HLQ.out HTB3.out hpl3.blk hpl3.hm hpl3.q)
 have c53:=HB53.out.cell
 clear hpl3 hqc haI
 cases hbk:blkB q x m a with
 | true=>
  rw[hbk] at KB
  have HBK:=hide hbk
  clear hbk
  go_wp2_with (first
   | (
     go_at_call 57
     with_reducible refine(KB.out).mono ?_
     rintro e w4 ⟨rfl,hg4⟩
     have HG4:=hide hg4
     clear hg4 c53)
   | fail)
  have HS7:Hid ((fun V=>(∀o,V.cell? ⟨w.heap.size+1,o,none⟩=([I x,I m]:List Value)[o]?)∧(∀o,V.cell? ⟨q.blk,o,none⟩=([.map (some q.hb),.slice qa q.qs.length qcap]:List Value)[o]?)) w4.drew):=⟨(HB53.out.G HG4.out.drew).cell,by
   have:=((HT3.out.pl r q HQ1.out).blk.G HG4.out.drew).cell
   rw[HQV.out] at this
   exact this⟩
  have hA5:G w4 ((w4.alloc (.cells #[I x,I m] 68)).drew):=((G.refl w4).alloc _).drew
  have hb5:Blk ((w4.alloc (.cells #[I x,I m] 68)).drew) w4.heap.size 68 [I x,I m]:=(Blk.new w4 [I x,I m] 68).drew
  have hT5:=HT3.out.G (HG4.out.trans hA5)
  have hq5:=(hT5.pl r q HQ1.out).q
  have hne5:(Value.slice qa q.qs.length qcap).ownBlock≠some w4.heap.size:=fun e=>by
   have h1:=HT3.out.lt _ _ ((HT3.out.pl r q HQ1.out).t3 _ (by rw[HQV.out];exact e))
   have h2:=HG4.out.size
   omega
  rw[HQV.out] at hq5
  have KI:=hide (insert_any q.qs (.slice qa q.qs.length qcap) a x m w4.heap.size ((w4.alloc (.cells #[I x,I m] 68)).drew) hq5 hb5 HAQ.out (by have:=HQL.out s1 q HPq.out;omega) hne5)
  have HT5:=hide hT5
  have HA5:=hide hA5
  clear hA5 hb5 hT5 hq5 hne5
  refine wp_region_noPanic ?_
  refine wp_region_L (S:=(fun V=>(∀o,V.cell? ⟨w.heap.size+1,o,none⟩=([I x,I m]:List Value)[o]?)∧(∀o,V.cell? ⟨q.blk,o,none⟩=([.map (some q.hb),.slice qa q.qs.length qcap]:List Value)[o]?))) 11 (by kernel_rfl) (HS7.out) (fun hHeld=>?_)
  refine wpAnyL_take (i:=0) (v:=?_) rfl (by kernel_rfl) (by kernel_rfl) (by kernel_rfl) (by kernel_rfl) (fun _ _ _ h=>h) (Or.inl ⟨by rfl,?_⟩) hHeld ?_
  rotate_left 1
  ·(intro w hSw;obtain⟨q1,q2⟩:=hSw;go_simp;try with_reducible rfl)
  try simp only[Act.put,zzA,zzB,zzD,zzE,zzF]
  refine wpAnyL_take (i:=1) (v:=?_) rfl (by kernel_rfl) (by kernel_rfl) (by kernel_rfl) (by kernel_rfl) (fun _ _ _ h=>h) (Or.inl ⟨by rfl,?_⟩) hHeld ?_
  rotate_left 1
  ·(intro w hSw;obtain⟨q1,q2⟩:=hSw;go_simp;try with_reducible rfl)
  try simp only[Act.put,zzA,zzB,zzC,zzD,zzE,zzF]
  refine wpAnyL_take (i:=2) (v:=?_) rfl (by kernel_rfl) (by kernel_rfl) (by kernel_rfl) (by kernel_rfl) (fun _ _ _ h=>h) (Or.inl ⟨by rfl,?_⟩) hHeld ?_
  rotate_left 1
  ·(intro w hSw;obtain⟨q1,q2⟩:=hSw;go_simp;try with_reducible rfl)
  try simp only[Act.put,zzA,zzB,zzC,zzD,zzE,zzF]
  refine wpAnyL_take (i:=3) (v:=?_) rfl (by kernel_rfl) (by kernel_rfl) (by kernel_rfl) (by kernel_rfl) (fun _ _ _ h=>h) (Or.inl ⟨by rfl,?_⟩) hHeld ?_
  rotate_left 1
  ·(intro w hSw;obtain⟨q1,q2⟩:=hSw;go_simp;try with_reducible rfl)
  try simp only[Act.put,zzA,zzB,zzC,zzD,zzE,zzF]
  refine wpAnyL_take (i:=4) (v:=?_) rfl (by kernel_rfl) (by kernel_rfl) (by kernel_rfl) (by kernel_rfl) (fun _ _ _ h=>h) (Or.inl ⟨by rfl,?_⟩) hHeld ?_
  rotate_left 1
  ·(intro w hSw;obtain⟨q1,q2⟩:=hSw;go_simp;try with_reducible rfl)
  try simp only[Act.put,zzA,zzB,zzC,zzD,zzE,zzF]
  refine wpAnyL_take (i:=5) (v:=?_) rfl (by kernel_rfl) (by kernel_rfl) (by kernel_rfl) (by kernel_rfl) (fun _ _ _ h=>h) (Or.inl ⟨by rfl,?_⟩) hHeld ?_
  rotate_left 1
  ·(intro w hSw;obtain⟨q1,q2⟩:=hSw;go_simp;try with_reducible rfl)
  try simp only[Act.put,zzA,zzB,zzC,zzD,zzE,zzF]
  refine wpAnyL_take (i:=6) (v:=?_) rfl (by kernel_rfl) (by kernel_rfl) (by kernel_rfl) (by kernel_rfl) (fun _ _ _ h=>h) (Or.inl ⟨by rfl,?_⟩) hHeld ?_
  rotate_left 1
  ·(intro w hSw;obtain⟨q1,q2⟩:=hSw;go_simp;try with_reducible rfl)
  try simp only[Act.put,zzA,zzB,zzC,zzD,zzE,zzF]
  refine wpAnyL_one (i:=7) (by kernel_rfl) rfl (by kernel_rfl) (fun K hK=>?_)
  clear hHeld
  go_simp
  have HS75:Hid ((fun V=>(∀o,V.cell? ⟨w.heap.size+1,o,none⟩=([I x,I m]:List Value)[o]?)∧(∀o,V.cell? ⟨q.blk,o,none⟩=([.map (some q.hb),.slice qa q.qs.length qcap]:List Value)[o]?)) ((w4.alloc (.cells #[I x,I m] 68)).drew)):=⟨(HB53.out.G (HG4.out.trans HA5.out)).cell,by have:=((HT5.out.pl r q HQ1.out).blk).cell;rw[HQV.out] at this;exact this⟩
  refine hK.out _ _ (HS75.out) (fun hHeld=>?_)
  clear hK K
  try simp only[Act.put,zzA,zzB,zzC,zzD,zzE,zzF]
  refine wpAnyL_one (i:=8) (by kernel_rfl) rfl (by kernel_rfl) (fun K hK=>?_)
  clear hHeld
  go_simp
  with_reducible refine(KI.out).mono ?_
  rintro e w6 ⟨v6,rfl,hQ6,hC6,hob6⟩
  rw[←HQV.out] at hC6 hob6
  have HC6:=hide hC6
  have HOB6:=hide hob6
  obtain⟨g6,cap6,hv6⟩:∃g cap,v6=.slice (some ⟨g,0,none⟩) (q.qs.length+1) cap:=by
   rcases hQ6 with ⟨-,e⟩|⟨g,cap,rest,e,-⟩
   ·have:=putQ_len (x:=x) (m:=m) HAQ.out;rw[e] at this;simp at this
   ·exact⟨g,cap,by rw[e,putQ_len HAQ.out]⟩
  have HQ6:=hide hQ6
  subst hv6
  have HB56:=hide ((HB53.out.G (HG4.out.trans HA5.out)).chg hC6 (fun e=>HNO1.out (w.heap.size+1) (by omega) HK5.out.lt (by have h:s1.own _=_:=(HT5.out.pl r q HQ1.out).t3 _ e;rw[h];simp)))
  have HQB6:=hide ((HT5.out.pl r q HQ1.out).blk.chg hC6 (fun e=>((HT5.out.pl r q HQ1.out).ne.2 _ e).1 rfl))
  clear hQ6 hC6 hob6
  go_wp2_with fail
  refine hK.out _ _ (⟨HB56.out.cell,by have:=HQB6.out.cell;rw[HQV.out] at this;exact this⟩) (fun hHeld=>?_)
  clear hK K
  try simp only[Act.put,zzA,zzB,zzC,zzD,zzE,zzF]
  refine wpAnyL_take2 10 (i:=9) (v:=?_) rfl (by kernel_rfl) (by kernel_rfl) (by kernel_rfl) (by kernel_rfl) (fun _ _ _ h=>h) (Or.inl ⟨by rfl,?_⟩) hHeld ?_
  rotate_left 1
  ·(intro w hSw;obtain⟨q1,q2⟩:=hSw;go_simp;try with_reducible rfl)
  try simp only[Act.put,zzA,zzB,zzC,zzD,zzE,zzF]
  refine wpAnyL_take (i:=10) (v:=?_) rfl (by kernel_rfl) (by kernel_rfl) (by kernel_rfl) (by kernel_rfl) (fun _ _ _ h=>h) (Or.inl ⟨by rfl,?_⟩) hHeld ?_
  rotate_left 1
  ·(intro w hSw;obtain⟨q1,q2⟩:=hSw;go_simp;try with_reducible rfl)
  try simp only[Act.put,zzA,zzB,zzC,zzD,zzE,zzF]
  refine wpAnyL_last (by kernel_rfl) rfl (by kernel_rfl) (fun K hK=>?_)
  clear hHeld
  have hc7:=HQB6.out.cell
  have hz7:=HQB6.out.frozen
  rw[HQV.out] at hc7
  go_simp
  refine hK.out _ _ ?_
  clear hK K
  refine NoPanic.normal ?_
  obtain⟨s2,hl2,hp2,hT7,hE7⟩:=HT5.out.queue HQ1.out HQ6.out HC6.out HOB6.out
  have HB47:=hide ((HB43.out.G (HG4.out.trans HA5.out)).chg hE7.chg (HNO1.out w.heap.size (Nat.le_refl _) HK4.out.lt))
  have HB57:=hide ((HB53.out.G (HG4.out.trans HA5.out)).chg hE7.chg (HNO1.out (w.heap.size+1) (by omega) HK5.out.lt))
  have HTB7:Hid (Tb (w6.setCell ⟨q.blk,1,none⟩ (.slice (some ⟨g6,0,none⟩) (q.qs.length+1) cap6))):=by
   have hA:=HTB3.out.G (HG4.out.trans HA5.out)
   exact hA.keep (hE7.chg.block _ hA.lf (fun e=>e HGL1.out.1)) (hE7.chg.block _ hA.lj (fun e=>e HGL1.out.2)) hE7.chg.size
  generalize w6.setCell ⟨q.blk,1,none⟩ (.slice (some ⟨g6,0,none⟩) (q.qs.length+1) cap6)=w7 at *
  have hp7:s2.lv x=some PA:=by rw[hl2];exact upd_same _ _ _
  have hq7:s2.pl r=some {q with q:=.slice (some ⟨g6,0,none⟩) (q.qs.length+1) cap6,qs:=putQ q.qs a x m}:=by rw[hp2,upd_same]
  have c5:=HB57.out.cell
  have ct:=hT7.tb.cell
  have hl:=hT7.lm.lookN kyI underlying78 zeroValue55 (kyI_ok.2 HX.out)
  rw[hp7] at hl
  simp only[Option.map_some,Option.getD_some] at hl
  have HT7:=hide hT7;have HE7:=hide hE7;have HP7:=hide hp7;have HQ7:=hide hq7;have HL2:=hide hl2;have HP2:=hide hp2
  clear hc7 hz7 hT7 hE7 hp7 hq7 hl2 hp2
  go_wp2
  go_quiet (fail)
  go_wp2
  have hGD:G w7 (w7.drewN nq):=(G.refl w7).drewN nq
  have HT9:=hide (HT7.out.G hGD)
  have HTB9:=hide (HTB7.out.G hGD)
  have HB49:=hide (HB47.out.G hGD)
  have HB59:=hide (HB57.out.G hGD)
  have HGD:=hide hGD
  have hS9:(fun V=>(∀o,V.cell? ⟨w.heap.size,o,none⟩=([I r.lv,.string r.lb,I r.id]:List Value)[o]?)∧(∀o,V.cell? ⟨w.heap.size+1,o,none⟩=([I x,I m]:List Value)[o]?)) (w7.drewN nq).drew:=⟨HB49.out.drew.cell,HB59.out.drew.cell⟩
  have HS9:=hide hS9
  have HPB9:=hide (HT9.out.pt x PA HP7.out).blk
  have hne2:¬w.heap.size=PA.blk∧¬w.heap.size+1=PA.blk:=by
   have:=HT.out.lt _ _ (HT.out.pt x p HP.out).t1
   rw[HE2'.out]
   omega
  have HNE:=hide hne2
  clear hGD hS9 hne2 hl ct c5
  generalize w7.drewN nq=w8 at HT9 HTB9 HB49 HB59 HGD HS9 HPB9⊢
  refine wp_region_noPanic ?_
  refine wp_region_L (S:=(fun V=>(∀o,V.cell? ⟨w.heap.size,o,none⟩=([I r.lv,.string r.lb,I r.id]:List Value)[o]?)∧(∀o,V.cell? ⟨w.heap.size+1,o,none⟩=([I x,I m]:List Value)[o]?))) 10 (by kernel_rfl) (HS9.out) (fun hHeld=>?_)
  refine wpAnyL_take (i:=0) (v:=?_) rfl (by kernel_rfl) (by kernel_rfl) (by kernel_rfl) (by kernel_rfl) (fun _ _ _ h=>h) (Or.inl ⟨by rfl,?_⟩) hHeld ?_
  rotate_left 1
  ·(intro w hSw;obtain⟨q1,q2⟩:=hSw;go_simp;try with_reducible rfl)
  try simp only[Act.put,zzA,zzB,zzD,zzE,zzF]
  refine wpAnyL_take (i:=1) (v:=?_) rfl (by kernel_rfl) (by kernel_rfl) (by kernel_rfl) (by kernel_rfl) (fun _ _ _ h=>h) (Or.inl ⟨by rfl,?_⟩) hHeld ?_
  rotate_left 1
  ·(intro w hSw;obtain⟨q1,q2⟩:=hSw;go_simp;try with_reducible rfl)
  try simp only[Act.put,zzA,zzB,zzC,zzD,zzE,zzF]
  refine wpAnyL_take (i:=2) (v:=?_) rfl (by kernel_rfl) (by kernel_rfl) (by kernel_rfl) (by kernel_rfl) (fun _ _ _ h=>h) (Or.inl ⟨by rfl,?_⟩) hHeld ?_
  rotate_left 1
  ·(intro w hSw;obtain⟨q1,q2⟩:=hSw;go_simp;try with_reducible rfl)
  try simp only[Act.put,zzA,zzB,zzC,zzD,zzE,zzF]
  refine wpAnyL_take (i:=3) (v:=?_) rfl (by kernel_rfl) (by kernel_rfl) (by kernel_rfl) (by kernel_rfl) (fun _ _ _ h=>h) (Or.inl ⟨by rfl,?_⟩) hHeld ?_
  rotate_left 1
  ·(intro w hSw;obtain⟨q1,q2⟩:=hSw;go_simp;try with_reducible rfl)
  try simp only[Act.put,zzA,zzB,zzC,zzD,zzE,zzF]
  refine wpAnyL_take (i:=4) (v:=?_) rfl (by kernel_rfl) (by kernel_rfl) (by kernel_rfl) (by kernel_rfl) (fun _ _ _ h=>h) (Or.inl ⟨by rfl,?_⟩) hHeld ?_
  rotate_left 1
  ·(intro w hSw;obtain⟨q1,q2⟩:=hSw;go_simp;try with_reducible rfl)
  try simp only[Act.put,zzA,zzB,zzC,zzD,zzE,zzF]
  refine wpAnyL_take (i:=5) (v:=?_) rfl (by kernel_rfl) (by kernel_rfl) (by kernel_rfl) (by kernel_rfl) (fun _ _ _ h=>h) (Or.inl ⟨by rfl,?_⟩) hHeld ?_
  rotate_left 1
  ·(intro w hSw;obtain⟨q1,q2⟩:=hSw;go_simp;try with_reducible rfl)
  try simp only[Act.put,zzA,zzB,zzC,zzD,zzE,zzF]
  refine wpAnyL_take (i:=6) (v:=?_) rfl (by kernel_rfl) (by kernel_rfl) (by kernel_rfl) (by kernel_rfl) (fun _ _ _ h=>h) (Or.inl ⟨by rfl,?_⟩) hHeld ?_
  rotate_left 1
  ·(intro w hSw;obtain⟨q1,q2⟩:=hSw;go_simp;try with_reducible rfl)
  try simp only[Act.put,zzA,zzB,zzC,zzD,zzE,zzF]
  refine wpAnyL_one (i:=7) (by kernel_rfl) rfl (by kernel_rfl) (fun K hK=>?_)
  clear hHeld
  have hc9:=HPB9.out.cell
  have hz9:=HPB9.out.frozen
  simp only[Pt.cells] at hc9
  go_simp
  have HPB10:Hid (Blk (((w8.setCell ⟨PA.blk,2,none⟩ (I r.lv)).setCell ⟨PA.blk,3,none⟩ (.string r.lb)).setCell ⟨PA.blk,4,none⟩ (I r.id)) PA.blk 63 _):=((HPB9.out.set 2 (I r.lv)).set 3 (.string r.lb)).set 4 (I r.id)
  have HC10:Hid (Chg (fun k=>k=PA.blk) w8 (((w8.setCell ⟨PA.blk,2,none⟩ (I r.lv)).setCell ⟨PA.blk,3,none⟩ (.string r.lb)).setCell ⟨PA.blk,4,none⟩ (I r.id))):=((chgk w8 PA.blk 2 _).trans (chgk _ PA.blk 3 _)).trans (chgk _ PA.blk 4 _)
  clear hc9 hz9
  refine hK.out _ _ (⟨(HB49.out.chg HC10.out HNE.out.1).drew.cell,(HB59.out.chg HC10.out HNE.out.2).drew.cell⟩) (fun hHeld=>?_)
  clear hK K
  try simp only[Act.put,zzA,zzB,zzC,zzD,zzE,zzF]
  refine wpAnyL_take2 9 (i:=8) (v:=?_) rfl (by kernel_rfl) (by kernel_rfl) (by kernel_rfl) (by kernel_rfl) (fun _ _ _ h=>h) (Or.inl ⟨by rfl,?_⟩) hHeld ?_
  rotate_left 1
  ·(intro w hSw;obtain⟨q1,q2⟩:=hSw;go_simp;try with_reducible rfl)
  try simp only[Act.put,zzA,zzB,zzC,zzD,zzE,zzF]
  refine wpAnyL_take (i:=9) (v:=?_) rfl (by kernel_rfl) (by kernel_rfl) (by kernel_rfl) (by kernel_rfl) (fun _ _ _ h=>h) (Or.inl ⟨by rfl,?_⟩) hHeld ?_
  rotate_left 1
  ·(intro w hSw;obtain⟨q1,q2⟩:=hSw;go_simp;try with_reducible rfl)
  try simp only[Act.put,zzA,zzB,zzC,zzD,zzE,zzF]
  refine wpAnyL_last (by kernel_rfl) rfl (by kernel_rfl) (fun K hK=>?_)
  clear hHeld
  have hc9:=HPB10.out.cell
  have hz9:=HPB10.out.frozen
  simp only[Pt.cells] at hc9
  go_simp
  refine hK.out _ _ ?_
  clear hK K
  refine NoPanic.normal ?_
  clear hc9 hz9
  have hb11:=HPB10.out.set 5 (I m)
  have hch:=HC10.out.trans (chgk _ PA.blk 5 (I m))
  obtain⟨T10,E10⟩:=HT9.out.ptCells (p':={PA with at_:=r,goal:=m}) HP7.out rfl rfl rfl rfl rfl hb11 hch
  have hgl2:s2.own 1=none∧s2.own 0=none:=by
   have hA:=HTB3.out.G (HG4.out.trans HA5.out)
   exact⟨HE7.out.free hA.lf HGL1.out.1,HE7.out.free hA.lj HGL1.out.2⟩
  have tb10:=HTB9.out.keep (E10.chg.block _ HTB9.out.lf (fun e=>e hgl2.1)) (E10.chg.block _ HTB9.out.lj (fun e=>e hgl2.2)) E10.chg.size
  have hb510:=HB59.out.chg hch HNE.out.2
  clear hb11 hch HPB10 HC10 HS9 HPB9
  generalize ((((w8.setCell ⟨PA.blk,2,none⟩ (I r.lv)).setCell ⟨PA.blk,3,none⟩ (.string r.lb)).setCell ⟨PA.blk,4,none⟩ (I r.id)).setCell ⟨PA.blk,5,none⟩ (I m))=w10 at *
  have hT10:=T10.G (G.refl w10).drew
  have hTb10:=tb10.G (G.refl w10).drew
  have hq10:(s2.setPt x {PA with at_:=r,goal:=m}).pl r=some {q with q:=.slice (some ⟨g6,0,none⟩) (q.qs.length+1) cap6,qs:=putQ q.qs a x m}:=HQ7.out
  have hmx:(4100000000000:Nat)≤maxLen:=of_decide_eq_true (by kernel_rfl)
  have hql:=HQL.out s1 q HPq.out
  have hlhl:=HLHL.out
  have KW2:=hide ((wba_any t (s2.setPt x {PA with at_:=r,goal:=m}) x m {PA with at_:=r,goal:=m} r {q with q:=.slice (some ⟨g6,0,none⟩) (q.qs.length+1) cap6,qs:=putQ q.qs a x m} a Lh LWa w10.drew hT10 hTb10 hgl2 (by simp[Gs.setPt]) HX.out HEW.out hq10 (by show a≤(putQ q.qs a x m).length;rw[putQ_len HAQ.out];exact Nat.le_succ_of_le HAQ.out) (fun z hz=>(HLH.out s1 q HPq.out z hz).1) (fun z hz=>(HLH.out s1 q HPq.out z hz).2) (by show(putQ q.qs a x m).length≤maxLen;rw[putQ_len HAQ.out];omega) (fun y hy=>by
   obtain⟨a1,a2,b,a3,a4⟩:=HBW.out y ((inW_put HAQ.out).1 hy)
   refine⟨a1,a2,b,?_,a4⟩
   simp only[Gs.setPt,upd_other a1]
   rw[HL2.out]
   simp only[Gs.setPt,upd_other a1]
   rw[HL1.out]
   exact a3) HXW.out HLWA.out (by show Lh.length+(putQ q.qs a x m).length<_;rw[putQ_len HAQ.out];have:=HBIG.out s1 q HPq.out;omega)).mono (fun e w' h=>wba_post hT10 hTb10 h))
  dsimp only at KW2
  have hlt3:∀b,u.ownBlock=some b→w2.drew.heap.size≤b∧b<w3.heap.size:=fun b hb=>World.ownsRow.lt HU.out b hb
  have hn1:∀b,u.ownBlock=some b→s1.own b=none:=fun b hb=>by
   cases e:s1.own b with
   | none=>rfl
   | some tg=>
    have:=(HT1.out.G HG2.out.drew).lt b tg e
    have:=hlt3 b hb
    omega
  have z5:=(HG4.out.trans HA5.out).size
  have z7:=HE7.out.chg.size
  have z8:=HGD.out.size
  have z10:=E10.chg.size
  have hn2:∀b,u.ownBlock=some b→s2.own b=none:=fun b hb=>HE7.out.free (by have:=hlt3 b hb;omega) (hn1 b hb)
  have hn3:∀b,u.ownBlock=some b→(s2.setPt x {PA with at_:=r,goal:=m}).own b=none:=hn2
  have hu10:=own_G (own_ext (own_G (own_ext (own_G HU.out (HG4.out.trans HA5.out)) HE7.out hn1) HGD.out) E10 hn2) (G.refl w10).drew
  have hlo10:w2.drew.heap.size≤w10.heap.size:=by
   have:=HE3.out.chg.size
   omega
  have HU10:=hide hu10;have HN3:=hide hn3;have HLO:=hide hlo10;have HLT3:=hide hlt3
  have HZ10:Hid (w3.heap.size≤w10.heap.size):=by
   show w3.heap.size≤w10.heap.size
   omega
  clear hlt3 hn1 z5 z7 z8 z10 hn2 hn3 hu10 hlo10
  have HT10:=hide hT10
  have HE10:=hide E10
  have c510:=hb510.cell
  clear hT10 hTb10 hq10 hmx hql hlhl T10 E10 tb10 hb510 hgl2
  go_wp2_with (first
   | (
     go_at_call 60
     with_reducible refine(KW2.out).mono ?_
     rintro e w11 ⟨v11,zs,s4,rfl,hzN,hv11,hT11,hE11,hTB11,hD⟩
     obtain⟨v12,w12,r1,r2,r3⟩:=app_rows2 w11 w2.drew.heap.size w10.drew.heap.size u v11 ol zs (own_ext HU10.out hE11 HN3.out) hv11 (by have h1:=HBIG.out s1 q HPq.out;have h2:=outL_le s1 m x p (q.qs.drop a);rw[←HOL.out] at h2;have h3:(putQ q.qs a x m).length=q.qs.length+1:=putQ_len HAQ.out;rw[h3] at hzN;omega) (by have h1:=hE11.chg.size;have h2:=HLO.out;have h3:w10.drew.heap.size=w10.heap.size:=rfl;omega)
     have HR1:=hide r1;have HR2:=hide r2;have HR3:=hide r3;have HT11:=hide hT11;have HE11:=hide hE11;have HTB11:=hide hTB11;have HD:=hide hD
     clear r1 r2 r3 hT11 hE11 hTB11 hD hv11 hzN)
   | (at_builtin;refine wpList_append_run rfl _ _ 42 rfl _ _ rfl rfl HR1.out ?_)
   | fail)
  go_ret2
  have hfree:∀b,u.ownBlock=some b→s4.own b=none:=fun b hb=>HE11.out.free (by have h1:=HLT3.out b hb;have h2:=HZ10.out;have h3:w10.drew.heap.size=w10.heap.size:=rfl;omega) (HN3.out b hb)
  have hcg:Chg (fun k=>u.ownBlock=some k) w11 w12:=⟨HR3.out.os,HR3.out.tape,HR3.out.output,HR3.out.size,fun k hk hn=>HR3.out.block k hk (fun e=>hn e.symm)⟩
  have hE:Ext w w11 s s4:=(((((((((G.ext s HGA.out).trans HE1.out).G HG2.out.drew).trans HE3.out).G (HG4.out.trans HA5.out)).trans HE7.out).G HGD.out).trans HE10.out).G (G.refl w10).drew).trans HE11.out
  have hz2:w.heap.size≤w2.drew.heap.size:=by
   have h1:=HGA.out.size
   have h2:=HE1.out.chg.size
   have h3:=HG2.out.size
   have h4:w2.drew.heap.size=w2.heap.size:=rfl
   omega
  have hin:inW q.hf (putQ q.qs a x m) x m a=inW q.hf q.qs x m a:=funext fun y=>propext (inW_put HAQ.out)
  have hD:=HD.out
  rw[hin] at hD
  refine⟨s1,q,v12,HPq.out,a,PA,ol,HAE.out,HPA.out,HOL.out,.inr ⟨HBK.out,s2,_,s4,zs,rfl,⟨HR2.out.1,?_⟩,HL2.out,HP2.out,rfl,rfl,hD,HT11.out.chg hcg hfree,⟨⟨hcg.os.trans hE.chg.os,hcg.tape.trans hE.chg.tape,hcg.output.trans hE.chg.output,Nat.le_trans hE.chg.size hcg.size,fun b hb hn=>(hcg.block b (Nat.lt_of_lt_of_le hb hE.chg.size) (fun e=>by have:=(HLT3.out b e).1;omega)).trans (hE.chg.block b hb hn)⟩,hE.old,hE.new⟩⟩⟩
  rcases HR2.out.2 with h3|⟨g,cap,cur,e,hb,rest⟩
  ·exact .inl h3
  ·exact .inr ⟨g,cap,cur,e,Nat.le_trans hz2 hb,rest⟩
 | false=>
  rw[hbk] at KB
  have HBK:=hide hbk
  clear hbk
  go_wp2_with (first
   | (
     go_at_call 57
     with_reducible refine(KB.out).mono ?_
     rintro e w4 ⟨rfl,hg4⟩
     have hb4:=(HB43.out.G hg4).cell
     have hb5:=(HB53.out.G hg4).cell
     have HG4:=hide hg4
     have KG:=hide (grant_any t (s1.setPt x PA) x m r PA q w4 (HT3.out.G hg4) HX.out HRO.out HM0.out (upd_same _ _ _) HQ1.out Lh (fun z hz=>(HLH.out s1 q HPq.out z hz).1) HLHL.out LR (by rw[HE6'.out];exact HLR.out) HLRL.out)
     simp only[Rs.v] at KG
     clear hg4 c53)
   | (go_at_call 58;with_reducible refine(KG.out).mono ?_;rintro e w5 ⟨rfl,hT5,hE5⟩)
   | fail)
  go_ret2
  refine⟨s1,q,u,HPq.out,a,PA,ol,HAE.out,HPA.out,HOL.out,.inl ⟨HBK.out,rfl,own_ext (own_G (own_lo HU.out (by have h1:=HGA.out.size;have h2:=HE1.out.chg.size;have h3:=HG2.out.size;have h4:w2.drew.heap.size=w2.heap.size:=rfl;omega)) HG4.out) hE5 (fun b hb=>?_),hT5,((((((G.ext s HGA.out).trans HE1.out).G HG2.out.drew).trans HE3.out).G HG4.out).trans hE5)⟩⟩
  have hlt:=World.ownsRow.lt HU.out b hb
  show s1.own b=none
  cases e:s1.own b with
  | none=>rfl
  | some tg=>
   have:=(HT1.out.G HG2.out.drew).lt b tg e
   omega
end
end Go.Proofs.YtadfaiciolfgjaaGreatDoor
