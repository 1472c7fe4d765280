import Derived.Test.YthmdjhfbhbheeaaGreatDoorFold1
namespace Go.Proofs.YthmdjhfbhbheeaaGreatDoor
open Go.Proofs.Tryz
set_option maxHeartbeats 2000000
set_option maxRecDepth 100000
section
open Go.RowKit Go.Lib Go.Shelf
abbrev Q0:Qd:=(0,0,0,E0)
theorem sumEnd_ex(D:List Qd):∃m,SumEnd D m:=by
 suffices h:∀n,n≤D.length→(∀j,j<n→cod D j=0)∨∃m,SumEnd D m by
  rcases h D.length (Nat.le_refl _)with h|h
  ·exact⟨D.length,h,.inl rfl⟩
  ·exact h
 intro n
 induction n with
 | zero=>exact fun _=>.inl fun j hj=>absurd hj (Nat.not_lt_zero j)
 | succ n ih=>
  intro hn
  rcases ih (by omega)with h|h
  ·by_cases c:cod D n=0
   ·refine .inl fun j hj=>?_
    rcases Nat.lt_or_ge j n with d|d
    ·exact h j d
    ·have:j=n:=by omega
     rw[this];exact c
   ·exact .inr ⟨n,h,.inr ⟨by omega,c⟩⟩
  ·exact .inr h
def SR(D:List Qd)(rv:Value)(c:Int)(q:Qd):Prop:=(allNum D=false∧rv=.nilIface∧c=10∧q=Q0)∨
 (allNum D=true∧∃m0,SumEnd D m0∧((m0=D.length∧rv=(tot D D.length).1∧c=0∧q=(tot D D.length).2)∨(m0<D.length∧rv=.nilIface∧c=cod D m0∧q=Q0)))
def FR(agg:Int)(D:List Qd)(rv:Value)(c:Int)(q:Qd):Prop:=
 (agg=1∧rv=IW D.length∧c=0∧q=(2,(D.length:Int),0,E0))∨(agg=2∧SR D rv c q)∨
 ((agg=3∨agg=4∨agg=5)∧D=[]∧rv=.iface 110 (.agg #[])∧c=0∧q=Q0)∨
 (agg=3∧D≠[]∧rv=(D.getD (bst D (-1) (D.length-1)) Q0).it∧c=0∧q=D.getD (bst D (-1) (D.length-1)) Q0)∨
 (agg=4∧D≠[]∧rv=(D.getD (bst D 1 (D.length-1)) Q0).it∧c=0∧q=D.getD (bst D 1 (D.length-1)) Q0)∨
 (agg=5∧D≠[]∧((∃rv0,SR D rv0 c q∧c≠0∧rv=.nilIface)∨∃rv0 q0,SR D rv0 0 q0∧StepS 4 rv0 q0 (IW D.length) (2,(D.length:Int),0,E0) (rv,c,q)))
def GoodD(D:List Qd):Prop:=(∀q∈D,q.ok=true∧q.1≠0∧I64 q.2.1)∧D.length≤140737488351232
theorem good_num{D:List Qd}(h:GoodD D)(hA:allNum D=true):∀q∈D,Qd.num q:=fun q hq=>by
 obtain⟨h1,_,h3⟩:=h.1 q hq
 have:=List.all_eq_true.1 hA q hq
 simp at this
 exact⟨h1,this,h3⟩
theorem sr_ex(D:List Qd):∃rv c q,SR D rv c q:=by
 cases hA:allNum D
 ·exact⟨_,_,_,.inl ⟨hA,rfl,rfl,rfl⟩⟩
 ·obtain⟨m,hm⟩:=sumEnd_ex D
  rcases hm.2 with h|⟨h,_⟩
  ·exact⟨_,_,_,.inr ⟨hA,m,hm,.inl ⟨h,rfl,rfl,rfl⟩⟩⟩
  ·exact⟨_,_,_,.inr ⟨hA,m,hm,.inr ⟨h,rfl,rfl,rfl⟩⟩⟩
theorem sr_num{D:List Qd}(hD:GoodD D){rv:Value}{q:Qd}(h:SR D rv 0 q):NmbQ rv q:=by
 rcases h with ⟨_,_,h,_⟩|⟨hA,m,hm,h⟩
 ·cases h
 ·rcases h with ⟨h,rfl,_,rfl⟩|⟨h,_,hc,_⟩
  ·exact tot_nmb D (good_num hD hA) _ (Nat.le_refl _) (fun j hj=>hm.1 j (by omega))
  ·rcases hm.2 with e|⟨_,e⟩
   ·omega
   ·exact absurd hc.symm e
theorem len_nmb{D:List Qd}(hD:GoodD D):NmbQ (IW D.length) (2,(D.length:Int),0,E0):=.inl ⟨rfl,rfl,rfl,⟨by have:=hD.2;simp only;omega,by have:=hD.2;simp only;omega⟩,rfl⟩
theorem fr_ex(agg:Int)(h1:1≤agg)(h5:agg≤5)(D:List Qd)(hD:GoodD D):∃rv c q,FR agg D rv c q:=by
 have d:agg=1∨agg=2∨agg=3∨agg=4∨agg=5:=by omega
 rcases d with rfl|rfl|rfl|rfl|rfl
 ·exact⟨_,_,_,.inl ⟨rfl,rfl,rfl,rfl⟩⟩
 ·obtain⟨rv,c,q,h⟩:=sr_ex D
  exact⟨rv,c,q,.inr (.inl ⟨rfl,h⟩)⟩
 ·by_cases h:D=[]
  ·exact⟨_,_,_,.inr (.inr (.inl ⟨.inl rfl,h,rfl,rfl,rfl⟩))⟩
  ·exact⟨_,_,_,.inr (.inr (.inr (.inl ⟨rfl,h,rfl,rfl,rfl⟩)))⟩
 ·by_cases h:D=[]
  ·exact⟨_,_,_,.inr (.inr (.inl ⟨.inr (.inl rfl),h,rfl,rfl,rfl⟩))⟩
  ·exact⟨_,_,_,.inr (.inr (.inr (.inr (.inl ⟨rfl,h,rfl,rfl,rfl⟩))))⟩
 ·by_cases h:D=[]
  ·exact⟨_,_,_,.inr (.inr (.inl ⟨.inr (.inr rfl),h,rfl,rfl,rfl⟩))⟩
  ·obtain⟨rv,c,q,hs⟩:=sr_ex D
   by_cases hc:c=0
   ·subst hc
    obtain⟨s,hst⟩:=step_ex 4 (by decide) (by decide) (sr_num hD hs) (len_nmb hD)
    exact⟨s.1,s.2.1,s.2.2,.inr (.inr (.inr (.inr (.inr ⟨rfl,h,.inr ⟨rv,q,hs,hst⟩⟩))))⟩
   ·exact⟨_,c,q,.inr (.inr (.inr (.inr (.inr ⟨rfl,h,.inl ⟨rv,hs,hc,rfl⟩⟩))))⟩
theorem nmb_iv{x:Value}{q:Qd}(h:NmbQ x q):IVal x q.1 q.2.1 q.2.2.1 q.2.2.2:=by
 obtain⟨k,a,b,s⟩:=q
 rcases h with ⟨hk,hb,hs,_,rfl⟩|⟨hk,hs,pa,pb,u,v,rfl,fu,fv⟩
 ·simp only at hk hb hs⊢
  subst hk;subst hb;subst hs
  exact iv_whole a
 ·simp only at hk hs pa pb fu fv⊢
  subst hk;subst hs
  exact iv_cpx u v a b fu fv pa.lt pb.lt
theorem fr_ans{agg:Int}{D:List Qd}(hD:GoodD D){rv:Value}{c:Int}{q:Qd}(h:FR agg D rv c q)(w:World):Calls prog 35 #[rv,.int .i64 c] w fun e w'=>e=.returned (.tuple #[q.W,.int .i64 c])∧G w w':=by
 have err:∀{c:Int} {rv:Value},c≠0→Calls prog 35 #[rv,.int .i64 c] w fun e w'=>e=.returned (.tuple #[Qd.W Q0,.int .i64 c])∧G w w':=fun hc=>answer_err _ _ (by simpa using hc) w
 have srq:∀{rv:Value} {c:Int} {q:Qd},SR D rv c q→c≠0→q=Q0:=by
  intro rv c q hs hc
  rcases hs with ⟨_,_,_,rfl⟩|⟨_,m,_,⟨_,_,h0,_⟩|⟨_,_,_,rfl⟩⟩
  ·rfl
  ·exact absurd h0 hc
  ·rfl
 rcases h with ⟨_,rfl,rfl,rfl⟩|⟨_,hs⟩|⟨_,_,rfl,rfl,rfl⟩|⟨_,hne,rfl,rfl,rfl⟩|⟨_,hne,rfl,rfl,rfl⟩|⟨_,_,⟨rv0,hs,hc,rfl⟩|⟨rv0,q0,hs,hst⟩⟩
 ·exact answer_whole _ w
 ·by_cases hc:c=0
  ·subst hc
   exact answer_iv (nmb_iv (sr_num hD hs)) w
  ·rw[srq hs hc]
   exact err hc
 ·exact answer_null w
 ·have hm:D.getD (bst D (-1) (D.length-1)) Q0∈D:=by
   have:=bst_le D (-1) (D.length-1)
   have hl:0<D.length:=List.length_pos_iff.2 hne
   rw[List.getD_eq_getElem?_getD,List.getElem?_eq_getElem (show bst D (-1) (D.length-1)<D.length by omega)]
   exact List.getElem_mem _
  exact answer_iv (ival_any _ _ _ _ (hD.1 _ hm).1) w
 ·have hm:D.getD (bst D 1 (D.length-1)) Q0∈D:=by
   have:=bst_le D 1 (D.length-1)
   have hl:0<D.length:=List.length_pos_iff.2 hne
   rw[List.getD_eq_getElem?_getD,List.getElem?_eq_getElem (show bst D 1 (D.length-1)<D.length by omega)]
   exact List.getElem_mem _
  exact answer_iv (ival_any _ _ _ _ (hD.1 _ hm).1) w
 ·rw[srq hs hc]
  exact err hc
 ·rcases hst.2.1 with ⟨h0,hn⟩|⟨h0,e1,e2,e3,e4⟩
  ·simp only at h0 hn
   subst h0
   exact answer_iv (nmb_iv hn) w
  ·have hc:c≠0:=fun e=>h0.mp e
   have:q=Q0:=Prod.ext e1 (Prod.ext e2 (Prod.ext e3 e4))
   rw[this]
   exact err hc
theorem fo_1(x:Value)(n cap:Nat)(a:Option Addr)(hx:x=.slice a n cap)(w:World):Calls prog 96 #[.int .i64 1,x] w fun e w'=>e=.returned (.tuple #[IW n,.int .i64 0])∧G w w':=by
 subst hx
 go_enter func96,ntmps96
 go_wp2
 go_ret2
 exact⟨rfl,G.refl _⟩
theorem fo_2(x rv:Value)(c:Int)(w:World)(h:Calls prog 128 #[x] w fun e w'=>e=.returned (.tuple #[rv,.int .i64 c])∧G w w'):Calls prog 96 #[.int .i64 2,x] w fun e w'=>e=.returned (.tuple #[rv,.int .i64 c])∧G w w':=by
 have H:Hid _:=h
 clear h
 go_enter func96,ntmps96
 go_wp2_with fail
 refine Calls.mono (Hid.out H) ?_
 rintro e w1 ⟨rfl,hb1⟩
 go_wp2
 go_ret2
 exact⟨rfl,hb1⟩
theorem fo_3(x rv:Value)(w:World)(h:Calls prog 129 #[x,.int .i64 (-1)] w fun e w'=>e=.returned (rv)∧G w w'):Calls prog 96 #[.int .i64 3,x] w fun e w'=>e=.returned (.tuple #[rv,.int .i64 0])∧G w w':=by
 have H:Hid _:=h
 clear h
 go_enter func96,ntmps96
 go_wp2_with fail
 refine Calls.mono (Hid.out H) ?_
 rintro e w1 ⟨rfl,hb1⟩
 go_wp2
 go_ret2
 exact⟨rfl,hb1⟩
theorem fo_4(x rv:Value)(w:World)(h:Calls prog 129 #[x,.int .i64 1] w fun e w'=>e=.returned (rv)∧G w w'):Calls prog 96 #[.int .i64 4,x] w fun e w'=>e=.returned (.tuple #[rv,.int .i64 0])∧G w w':=by
 have H:Hid _:=h
 clear h
 go_enter func96,ntmps96
 go_wp2_with fail
 refine Calls.mono (Hid.out H) ?_
 rintro e w1 ⟨rfl,hb1⟩
 go_wp2
 go_ret2
 exact⟨rfl,hb1⟩
theorem fo_5(x rv:Value)(c:Int)(w:World)(h:Calls prog 130 #[x] w fun e w'=>e=.returned (.tuple #[rv,.int .i64 c])∧G w w'):Calls prog 96 #[.int .i64 5,x] w fun e w'=>e=.returned (.tuple #[rv,.int .i64 c])∧G w w':=by
 have H:Hid _:=h
 clear h
 go_enter func96,ntmps96
 go_wp2_with fail
 refine Calls.mono (Hid.out H) ?_
 rintro e w1 ⟨rfl,hb1⟩
 go_wp2
 go_ret2
 exact⟨rfl,hb1⟩
theorem out_zero(a:Option Addr)(cap:Nat)(side:Int)(w:World):Calls prog 129 #[.slice a 0 cap,.int .i64 side] w fun e w'=>e=.returned (.iface 110 (.agg #[]))∧G w w':=by
 go_enter func129,ntmps129
 go_wp2
 go_ret
 exact⟨rfl,G.refl _⟩
theorem mean_zero(a:Option Addr)(cap:Nat)(w:World):Calls prog 130 #[.slice a 0 cap] w fun e w'=>e=.returned (.tuple #[.iface 110 (.agg #[]),.int .i64 0])∧G w w':=by
 go_enter func130,ntmps130
 go_wp2
 go_ret2
 exact⟨rfl,G.refl _⟩
theorem sm_any{D:List Qd}(hD:GoodD D){rv:Value}{c:Int}{q:Qd}(h:SR D rv c q)(x:Value)(w:World)(hI:IRow w x (D.map Qd.it)):Calls prog 128 #[x] w fun e w'=>e=.returned (.tuple #[rv,.int .i64 c])∧G w w':=by
 rcases hI with ⟨rfl,hn⟩|⟨g,cap,rfl,hcap,hcell⟩
 ·have:D=[]:=List.map_eq_nil_iff.1 hn
  subst this
  rcases h with ⟨h,_⟩|⟨_,m,_,⟨_,rfl,rfl,_⟩|⟨h,_⟩⟩
  ·cases h
  ·exact sum_nil w
  ·exact absurd h (Nat.not_lt_zero _)
 ·have hI:IRow w (.slice (some ⟨g,0,none⟩) D.length cap) (D.map Qd.it):=.inr ⟨g,cap,by rw[List.length_map],hcap,hcell⟩
  rw[List.length_map]
  rcases h with ⟨hA,rfl,rfl,_⟩|⟨hA,m,hm,hr⟩
  ·exact sum_no g cap D (fun q hq=>⟨(hD.1 q hq).1,(hD.1 q hq).2.1⟩) hD.2 w hI hA
  ·exact sum_yes g cap D (good_num hD hA) hD.2 w hI m hm rv c (by
    rcases hr with ⟨h1,h2,h3,_⟩|⟨h1,h2,h3,_⟩
    ·exact .inl ⟨h1,h2,h3⟩
    ·exact .inr ⟨h1,h2,h3⟩)
theorem fo_any{agg:Int}{D:List Qd}(hD:GoodD D){rv:Value}{c:Int}{q:Qd}(h:FR agg D rv c q)(x:Value)(w:World)(hR:Rks w)(hI:IRow w x (D.map Qd.it)):Calls prog 96 #[.int .i64 agg,x] w fun e w'=>e=.returned (.tuple #[rv,.int .i64 c])∧G w w':=by
 have hsl:∃a n cap,x=.slice a n cap∧n=D.length:=by
  rcases hI with ⟨rfl,hn⟩|⟨g,cap,rfl,_,_⟩
  ·exact⟨_,_,_,rfl,by rw[List.map_eq_nil_iff.1 hn];rfl⟩
  ·exact⟨_,_,_,rfl,by rw[List.length_map]⟩
 have nn:D=[]→∃a cap,x=.slice a 0 cap:=fun e=>by
  rcases hI with ⟨rfl,_⟩|⟨g,cap,rfl,_,_⟩
  ·exact⟨_,_,rfl⟩
  ·exact⟨_,cap,by rw[e];rfl⟩
 have som:D≠[]→∃g cap,x=.slice (some ⟨g,0,none⟩) D.length cap∧D.length≤cap∧IRow w (.slice (some ⟨g,0,none⟩) D.length cap) (D.map Qd.it):=fun e=>by
  rcases hI with ⟨rfl,hn⟩|⟨g,cap,rfl,hcap,hcell⟩
  ·exact absurd (List.map_eq_nil_iff.1 hn) e
  ·rw[List.length_map] at hcap⊢
   exact⟨g,cap,rfl,hcap,.inr ⟨g,cap,by rw[List.length_map],by rw[List.length_map];exact hcap,hcell⟩⟩
 rcases h with ⟨rfl,rfl,rfl,_⟩|⟨rfl,hs⟩|⟨ha,hn,rfl,rfl,_⟩|⟨rfl,hne,rfl,rfl,_⟩|⟨rfl,hne,rfl,rfl,_⟩|⟨rfl,hne,hm⟩
 ·obtain⟨a,n,cap,hx,rfl⟩:=hsl
  exact fo_1 x _ cap a hx w
 ·exact fo_2 x rv c w (sm_any hD hs x w hI)
 ·obtain⟨a,cap,rfl⟩:=nn hn
  rcases ha with rfl|rfl|rfl
  ·exact fo_3 _ _ w (out_zero a cap _ w)
  ·exact fo_4 _ _ w (out_zero a cap _ w)
  ·exact fo_5 _ _ _ w (mean_zero a cap w)
 ·obtain⟨g,cap,rfl,hc,hI'⟩:=som hne
  exact fo_3 _ _ w (out_any g cap D (-1) (fun q hq=>(hD.1 q hq).1) (List.length_pos_iff.2 hne) hD.2 w hR hI' hc)
 ·obtain⟨g,cap,rfl,hc,hI'⟩:=som hne
  exact fo_4 _ _ w (out_any g cap D 1 (fun q hq=>(hD.1 q hq).1) (List.length_pos_iff.2 hne) hD.2 w hR hI' hc)
 ·obtain⟨g,cap,rfl,hc,hI'⟩:=som hne
  rcases hm with ⟨rv0,hs,hc,rfl⟩|⟨rv0,q0,hs,hst⟩
  ·exact fo_5 _ _ _ w (mean_err g _ cap (List.length_pos_iff.2 hne) rv0 c (by simpa using hc) w (sm_any hD hs _ w hI'))
  ·exact fo_5 _ _ _ w (mean_ok g _ cap (List.length_pos_iff.2 hne) rv0 rv c w (sm_any hD hs _ w hI') hst.1)
theorem Fold_arg(agg:Int)(x:Value)(ho:agg<1∨5<agg)(w:World):Calls prog 53 #[.int .i64 agg,x] w fun e w'=>e=.returned (.tuple #[V0,.int .i64 1])∧G w w':=by
 by_cases h:agg<1
 ·clear ho
  go_enter func53,ntmps53
  go_wp2
  exact bodyPost_ret (v:=.tuple #[V0,.int .i64 1]) (by simp[results,results53,go_sem]) rfl ⟨rfl,by repeat(first|exact G.refl _|refine G.alloc ?_ _|refine G.setCell ?_ (by simp) _)⟩
 ·have h':5<agg:=by omega
  clear ho
  go_enter func53,ntmps53
  go_wp2
  exact bodyPost_ret (v:=.tuple #[V0,.int .i64 1]) (by simp[results,results53,go_sem]) rfl ⟨rfl,by repeat(first|exact G.refl _|refine G.alloc ?_ _|refine G.setCell ?_ (by simp) _)⟩
theorem known_any(x:Value)(L:List Qd)(w:World)(hT:Tabs w)(hV:VRow w x L)(hn:L.length*40≤140737488351232) :
  Calls prog 95 #[x] w fun e w'=>((L.all Qd.ok=true∧∃x',e=.returned (.tuple #[x',.bool true])∧IRow w' x' (itemsOf L))∨(L.all Qd.ok=false∧e=.returned (.tuple #[.slice none 0 0,.bool false])))∧G w w':=by
 have hV':=hV
 rcases hV with ⟨rfl,rfl⟩|⟨b,off,cap,rfl,_,_⟩
 ·refine(known_nil w).mono ?_
  rintro e w1 ⟨rfl,hb⟩
  exact⟨.inl ⟨rfl,_,rfl,.inl ⟨rfl,rfl⟩⟩,hb⟩
 ·exact known_some b off cap L w hT hV' hn
theorem Fold_bad(agg:Int)(h1:1≤agg)(h5:agg≤5)(x:Value)(L:List Qd)(w:World)(hT:Tabs w)(hV:VRow w x L)(hn:L.length*40≤140737488351232)(hA:L.all Qd.ok=false):Calls prog 53 #[.int .i64 agg,x] w fun e w'=>e=.returned (.tuple #[V0,.int .i64 16])∧G w w':=by
 have H:Hid (∀W,G w W→Calls prog 95 #[x] W fun e w'=>e=.returned (.tuple #[.slice none 0 0,.bool false])∧G W w'):=fun W g=>by
  refine(known_any x L W (hT.G g) (hV.G g) hn).mono ?_
  rintro e w1 ⟨h,hb⟩
  rcases h with ⟨h,_⟩|⟨_,rfl⟩
  ·rw[hA] at h;cases h
  ·exact⟨rfl,hb⟩
 clear hV hA hT
 go_enter func53,ntmps53
 go_wp2_with fail
 refine(H.out _ ((G.refl w).alloc _)).mono ?_
 rintro e w1 ⟨rfl,hb1⟩
 have g1:G w w1:=((G.refl w).alloc _).trans hb1
 obtain⟨hc1,hf1⟩:=hb1.rules
 go_wp2
 exact bodyPost_ret (v:=.tuple #[V0,.int .i64 16]) (by simp[results,results53,go_sem,hc1]) rfl ⟨rfl,by
  repeat(first|exact g1|refine G.alloc ?_ _|refine G.setCell ?_ (by simp;try omega) _)⟩
def noNull(L:List Qd):List Qd:=L.filter fun q=>q.1 != 0
theorem Fold_ok(agg:Int)(h1:1≤agg)(h5:agg≤5)(x:Value)(L:List Qd)(w:World)(hT:Tabs w)(hR:Rks w)(hV:VRow w x L)(hn:L.length*40≤140737488351232)(hA:L.all Qd.ok=true)(hD:GoodD (noNull L))(rv:Value)(c:Int)(q:Qd)(hF:FR agg (noNull L) rv c q) :
  Calls prog 53 #[.int .i64 agg,x] w fun e w'=>e=.returned (.tuple #[q.W,.int .i64 c])∧G w w':=by
 have H:Hid (∀W,G w W→Calls prog 95 #[x] W fun e w'=>(∃x',e=.returned (.tuple #[x',.bool true])∧IRow w' x' ((noNull L).map Qd.it))∧G W w'):=fun W g=>by
  refine(known_any x L W (hT.G g) (hV.G g) hn).mono ?_
  rintro e w1 ⟨h,hb⟩
  rcases h with ⟨_,h⟩|⟨h,_⟩
  ·exact⟨h,hb⟩
  ·rw[hA] at h;cases h
 have H2:Hid (∀x' W,G w W→IRow W x' ((noNull L).map Qd.it)→Calls prog 96 #[.int .i64 agg,x'] W fun e w'=>e=.returned (.tuple #[rv,.int .i64 c])∧G W w'):=fun x' W g hI=>fo_any hD hF x' W (hR.G g) hI
 have H3:Hid _:=fr_ans hD hF
 clear hV hA hT hD hF
 obtain⟨qk,qa,qb,qs⟩:=q
 go_enter func53,ntmps53
 go_wp2_with fail
 refine(H.out _ ((G.refl w).alloc _)).mono ?_
 rintro e w1 ⟨⟨x',rfl,hI⟩,hb1⟩
 have HI:Hid _:=hI
 clear hI
 have g1:G w w1:=((G.refl w).alloc _).trans hb1
 obtain⟨hc1,hf1⟩:=hb1.rules
 have hz1:w.heap.size<w1.heap.size:=by have:=hb1.size;simp at this;omega
 go_wp2_with fail
 refine(H2.out _ _ g1 HI.out).mono ?_
 rintro e w2 ⟨rfl,hb2⟩
 have g2:G w w2:=g1.trans hb2
 obtain⟨hc2,hf2⟩:=hb2.rules
 have hz2:w.heap.size<w2.heap.size:=by have:=hb2.size;omega
 go_wp2_with fail
 refine(H3.out _).mono ?_
 rintro e w3 ⟨rfl,hb3⟩
 have g3:G w w3:=g2.trans hb3
 obtain⟨hc3,hf3⟩:=hb3.rules
 go_wp2
 exact bodyPost_ret (v:=.tuple #[V qk qa qb qs,.int .i64 c]) (by simp[results,results53,go_sem,hc1,hc2,hc3,hz1,hz2]) rfl ⟨rfl,by
  repeat(first|exact g3|refine G.alloc ?_ _|refine G.setCell ?_ (by simp;try omega) _)⟩
end
section
open Go.RowKit Go.Lib Go.Shelf
theorem rsum_no'(b off cap:Nat)(D:List Qd)(hn:D.length≤140737488351232)(w:World)(hV:VRow w (.slice (some ⟨b,off,none⟩) D.length cap) D)(hA:allNum D=false) :
  Calls prog 97 #[.slice (some ⟨b,off,none⟩) D.length cap] w fun e w'=>e=.returned (.tuple #[V0,.int .i64 10])∧G w w':=by
 have HV:Hid _:=hV
 have HA:Hid _:=hA
 clear hV hA
 go_enter func97,ntmps97
 go_wp2
 go_loopw [4] (fun i W=>∃m:Nat,m≤D.length∧i=.int .i64 m∧W=w.alloc (.cells #[I 0,I 0,I 0,.string E0] 31)∧Hid (allNum (D.take m)=true)) (fun i _=>D.length-(RowKit.intOf i).toNat)
 case atStart=>exact⟨0,by omega,rfl,rfl,rfl⟩
 case round=>
  obtain⟨m,hm,rfl,rfl,hall⟩:=hrel
  by_cases hlt:m<D.length
  ·obtain⟨q,hq⟩:∃q,D[m]?=some q:=⟨D[m],List.getElem?_eq_getElem hlt⟩
   obtain⟨h0,_,_,_⟩:=vrow_at (VRow.G HV.out ((G.refl w).alloc (.cells #[I 0,I 0,I 0,.string E0] 31))) hq
   have R:Hid ((q.1=2∨q.1=3)→allNum (D.take (m+1))=true):=fun h=>by
    have:=hall.out
    unfold allNum at this⊢
    rw[take_snoc hq,List.all_append,this]
    simp[h]
   clear hq hall
   obtain⟨k,a,b',s⟩:=q
   simp only at h0 R
   by_cases k2:k=2
   ·have R':Hid _:=R.out (.inl k2)
    have n2:(k != 2)=false:=by simp[k2]
    clear R k2
    go_wp2
    go_roundw
    case rel=>exact⟨m+1,by omega,by go_num,by trivial,R'.out⟩
    case measure=>simp[RowKit.intOf];omega
   ·have n2:(k != 2)=true:=by simpa using k2
    by_cases k3:k=3
    ·have R':Hid _:=R.out (.inr k3)
     have n3:(k != 3)=false:=by simp[k3]
     clear R k2 k3
     go_wp2
     go_roundw
     case rel=>exact⟨m+1,by omega,by go_num,by trivial,R'.out⟩
     case measure=>simp[RowKit.intOf];omega
    ·have n3:(k != 3)=true:=by simpa using k3
     clear R k2 k3
     go_wp2
     exact bodyPost_ret (v:=.tuple #[V0,.int .i64 10]) (by simp[results,results97,go_sem]) rfl ⟨rfl,by
      repeat(first|exact G.refl _|refine G.alloc ?_ _|refine G.setCell ?_ (by simp;try omega) _)⟩
  ·exfalso
   have e:D.take m=D:=List.take_of_length_le (by omega)
   have h1:=hall.out
   rw[e,HA.out] at h1
   cases h1
def SBox(w:World)(q:Qd)(b c:Nat)(W:World):Prop:=Two w b c (fun o=>[I 0,I 0,I 0,Value.string E0][o]?) (fun o=>[I q.1,I q.2.1,I q.2.2.1,Value.string q.2.2.2][o]?) W
def RS(w:World)(B5 b o:Nat)(tk ta tb:Int)(ts:ByteArray)(qk qa qb:Int)(qs:ByteArray)(W:World):Prop:=(∀(o:Nat),W.cell? {block:=B5,off:=o}=[I tk,I ta,I tb,Value.string ts][o]?)∧W.cell? {block:=b,off:=o}=some (I qk)∧W.cell? {block:=b,off:=o+1}=some (I qa)∧W.cell? {block:=b,off:=o+2}=some (I qb)∧W.cell? {block:=b,off:=o+3}=some (.string qs)∧
 (∀(o:Nat),W.cell? {block:=w.heap.size,off:=o}=[I 0,I 0,I 0,Value.string E0][o]?)∧(∀(o:Nat),W.frozen? {block:=w.heap.size,off:=o}=false)∧(∀(o:Nat),W.frozen? {block:=B5,off:=o}=false)∧G w W∧w.heap.size<W.heap.size∧B5<W.heap.size
theorem RS.keep{w W W':World}{B5 b o:Nat}{tk ta tb:Int}{ts:ByteArray}{qk qa qb:Int}{qs:ByteArray}(hb:G W W')(h:RS w B5 b o tk ta tb ts qk qa qb qs W):RS w B5 b o tk ta tb ts qk qa qb qs W':=by
 obtain⟨h1,h2,h3,h4,h5,h6,h7,h8,h9,h10,h11⟩:=h
 exact⟨G.cells hb h1 h11,(hb.cell (cellLt h2)).trans h2,(hb.cell (cellLt h3)).trans h3,(hb.cell (cellLt h4)).trans h4,(hb.cell (cellLt h5)).trans h5,G.cells hb h6 h10,G.frozens hb h7 h10,G.frozens hb h8 h11,h9.trans hb,Nat.lt_of_lt_of_le h10 hb.size,Nat.lt_of_lt_of_le h11 hb.size⟩
theorem rs_of{w W:World}{B5 b off n cap m:Nat}{t q:Qd}{D:List Qd}(h:SBox w t w.heap.size B5 W)(hV:VRow W (.slice (some ⟨b,off,none⟩) n cap) D)(hq:D[m]?=some q):RS w B5 b (off+m*4) t.1 t.2.1 t.2.2.1 t.2.2.2 q.1 q.2.1 q.2.2.1 q.2.2.2 W:=by
 obtain⟨h1,h2,h3,h4,h5,h6,h7⟩:=h
 obtain⟨c0,c1,c2,c3⟩:=vrow_at hV hq
 exact⟨h2,c0,c1,c2,c3,h1,h3,h4,h5,h6,h7⟩
theorem rsum_yes'(b off cap:Nat)(D:List Qd)(hD:∀q∈D,Qd.num q)(hn:D.length≤140737488351232)(w:World)(hV:VRow w (.slice (some ⟨b,off,none⟩) D.length cap) D)(m0:Nat)(hE:SumEnd D m0)(rc:Int)(q0:Qd)(hR:(m0=D.length∧rc=0∧q0=(tot D D.length).2)∨(m0<D.length∧rc=cod D m0∧q0=Q0)) :
  Calls prog 97 #[.slice (some ⟨b,off,none⟩) D.length cap] w fun e w'=>e=.returned (.tuple #[q0.W,.int .i64 rc])∧G w w':=by
 have HV:Hid _:=hV
 have HE:Hid _:=hE
 have HR:Hid _:=hR
 clear hV hE hR
 go_enter func97,ntmps97
 go_wp2
 go_loopw [4] (fun i W=>∃m:Nat,m≤D.length∧i=.int .i64 m∧W=w.alloc (.cells #[I 0,I 0,I 0,.string E0] 31)) (fun i _=>D.length-(RowKit.intOf i).toNat)
 case atStart=>exact⟨0,by omega,rfl,rfl⟩
 case round=>
  obtain⟨m,hm,rfl,rfl⟩:=hrel
  by_cases hlt:m<D.length
  ·obtain⟨q,hq⟩:∃q,D[m]?=some q:=⟨D[m],List.getElem?_eq_getElem hlt⟩
   obtain⟨h0,_,_,_⟩:=vrow_at (VRow.G HV.out ((G.refl w).alloc (.cells #[I 0,I 0,I 0,.string E0] 31))) hq
   have hk:=(hD q (List.mem_of_getElem? hq)).2.1
   clear hq
   obtain⟨k,a,b',s⟩:=q
   simp only at h0 hk
   by_cases k2:k=2
   ·have n2:(k != 2)=false:=by simp[k2]
    clear k2 hk
    go_wp2
    go_roundw
    case rel=>exact⟨m+1,by omega,by go_num,by trivial⟩
    case measure=>simp[RowKit.intOf];omega
   ·have n2:(k != 2)=true:=by simpa using k2
    have n3:(k != 3)=false:=by
                     have:k=3:=by omega
                     simp[this]
    clear k2 hk
    go_wp2
    go_roundw
    case rel=>exact⟨m+1,by omega,by go_num,by trivial⟩
    case measure=>simp[RowKit.intOf];omega
  ·go_wp2_with fail
   refine(rwhole _ _).mono ?_
   rintro e w1 ⟨rfl,hb1⟩
   have hz1:w.heap.size<w1.heap.size:=by have:=hb1.size;simp at this;omega
   have hT:Two w w.heap.size w1.heap.size (fun o=>[I 0,I 0,I 0,Value.string E0][o]?) (fun o=>[I 2,I 0,I 0,Value.string E0][o]?) (w1.alloc (.cells #[I 2,I 0,I 0,.string E0] 31)):=by
    have hz:w.heap.size<w1.heap.size:=by have:=hb1.size;simp at this;omega
    refine⟨?_,fun o=>by simp,?_,fun o=>by simp,(((G.refl w).alloc _).trans hb1).alloc _,by simp;omega,by simp⟩
    ·exact G.cells (hb1.alloc _) (fun o=>by simp) (by simp)
    ·exact G.frozens (hb1.alloc _) (fun o=>by simp) (by simp)
   clear hb1
   have HT0:Hid (SBox w (tot D 0).2 w.heap.size w1.heap.size (w1.alloc (.cells #[I 2,I 0,I 0,.string E0] 31))):=hT
   clear hT
   generalize hB5:w1.heap.size=B5 at HT0 hz1
   go_wp2
   go_loopw [6] (fun i W=>∃m:Nat,m≤D.length∧i=.int .i64 m∧Hid (SBox w (tot D m).2 w.heap.size B5 W)∧Hid (∀j,j<m→cod D j=0)) (fun i _=>D.length-(RowKit.intOf i).toNat)
   case atStart=>exact⟨0,by omega,rfl,HT0.out,fun j hj=>absurd hj (Nat.not_lt_zero j)⟩
   case round=>
    obtain⟨m,hm,rfl,HS,HC⟩:=hrel
    have HG:Hid (G w wr):=HS.out.2.2.2.2.1
    by_cases hlt2:m<D.length
    ·obtain⟨q,hq⟩:∃q,D[m]?=some q:=⟨D[m],List.getElem?_eq_getElem hlt2⟩
     have hr0:=rs_of HS.out (VRow.G HV.out HG.out) hq
     have T2:Hid _:=(tot_step D hD hq HC.out).2.1
     have T3:Hid _:=(tot_step D hD hq HC.out).2.2
     generalize htn:(tot D (m+1)).2=tn at T2 T3
     generalize (tot D m).2=tq at hr0 T2
     have HTN:Hid _:=htn
     clear hq htn HS
     obtain⟨tk,ta,tb,ts⟩:=tq
     obtain⟨nk,na,nb,ns⟩:=tn
     obtain⟨qk,qa,qb,qs⟩:=q
     unfold RS at hr0
     simp only at hr0
     by_cases hlt3:(m:Int)<(D.length:Int)
     ·go_wp2
      go_region_held3 (fun W=>(∀(o:Nat),W.cell? {block:=B5,off:=o}=[I tk,I ta,I tb,Value.string ts][o]?)∧W.cell? {block:=b,off:=off+m*4}=some (I qk)∧W.cell? {block:=b,off:=off+m*4+1}=some (I qa)∧W.cell? {block:=b,off:=off+m*4+2}=some (I qb)∧W.cell? {block:=b,off:=off+m*4+3}=some (.string qs)∧
        (∀(o:Nat),W.cell? {block:=w.heap.size,off:=o}=[I 0,I 0,I 0,Value.string E0][o]?)∧(∀(o:Nat),W.frozen? {block:=w.heap.size,off:=o}=false)∧(∀(o:Nat),W.frozen? {block:=B5,off:=o}=false)∧G w W∧w.heap.size<W.heap.size∧B5<W.heap.size)
       ((first|assumption|(refine RS.keep ?_ hr0;repeat(first|exact G.refl _|exact(G.drew (G.refl _)).trans hb5|exact(G.alloc (G.drew (G.refl _)) _).trans hb5|exact(G.drew (G.alloc (G.refl _) _)).trans hb5|refine G.drew ?_|refine G.alloc ?_ _|refine G.setCell ?_ (by simp) _))))
       (first|(go_at_call 47;refine(T2.out _).mono ?_;rintro e w5 ⟨rfl,hb5⟩;obtain⟨hc5,hf5⟩:=hb5.rules)|fail)
      ·rename_i hH
       have hT7:∀o,(w5.alloc (.cells #[I nk,I na,I nb,.string ns] 31)).cell? ⟨w5.heap.size,o,none⟩=[I nk,I na,I nb,Value.string ns][o]?:=fun o=>by simp
       clear hb5 hc5 hf5 hr0
       generalize (w5.alloc (.cells #[I nk,I na,I nb,.string ns] 31))=W6 at hT7 hH⊢
       generalize w5.heap.size=T7 at hT7⊢
       obtain⟨c5,_,_,_,_,c2,f2,f5,hG6,z2,z5⟩:=hH
       have HTwo:Hid (Two w w.heap.size B5 (fun o=>[I 0,I 0,I 0,Value.string E0][o]?) (fun o=>[I tk,I ta,I tb,Value.string ts][o]?) W6):=⟨c2,c5,f2,f5,hG6,z2,z5⟩
       by_cases hc:cod D m=0
       ·have hc':(cod D m != 0)=false:=by simp[hc]
        have R:Hid (∀j,j<m+1→cod D j=0):=fun j hj=>by
         rcases Nat.lt_or_ge j m with c|c
         ·exact HC.out j c
         ·have:j=m:=by omega
          rw[this];exact hc
        clear hc
        go_wp2
        go_roundw
        case rel=>
         refine⟨m+1,by omega,by go_num,?_,R.out⟩
         have:=two_swap (two_set1 (I nk) (I na) (I nb) (.string ns) (by omega) (by omega) (two_swap HTwo.out))
         unfold Hid SBox
         rw[HTN.out]
         exact this
        case measure=>simp[RowKit.intOf];omega
       ·have hc':(cod D m != 0)=true:=by simpa using hc
        have hE:m0=m:=by
         obtain⟨e1,e2⟩:=HE.out
         rcases Nat.lt_trichotomy m m0 with h|h|h
         ·exact absurd (e1 m h) hc
         ·exact h.symm
         ·rcases e2 with e2|⟨_,e2⟩
          ·omega
          ·exact absurd (HC.out m0 h) e2
        have hRq:rc=cod D m∧q0=Q0:=by
         rcases HR.out with ⟨h,_⟩|⟨_,h1,h2⟩
         ·omega
         ·rw[hE] at h1;exact⟨h1,h2⟩
        have HRq:Hid _:=hRq
        clear hE hc hRq
        generalize hcd:cod D m=cd at hc'⊢
        have HCD:Hid _:=hcd
        clear hcd
        go_wp2
        exact bodyPost_ret (v:=.tuple #[V0,.int .i64 cd]) (by simp[results,results97,go_sem,c2]) rfl ⟨by rw[HRq.out.1,HRq.out.2,HCD.out],by
         repeat(first|exact hG6|refine G.setCell ?_ (Nat.le_refl _) _)⟩
      ·rename_i hH
       have hT7:=box_set w5 wr.heap.size (I 0) (I 0) (I 0) (.string E0) (I nk) (I na) (I nb) (.string ns) (fun o=>by rw[hc5 _ _ (by simp)];simp)
       clear hb5 hc5 hf5 hr0
       generalize ((((w5.setCell {block:=wr.heap.size,off:=0} (I nk)).setCell {block:=wr.heap.size,off:=1} (I na)).setCell {block:=wr.heap.size,off:=2} (I nb)).setCell {block:=wr.heap.size,off:=3} (.string ns))=W6 at hT7 hH⊢
       generalize wr.heap.size=T7 at hT7⊢
       obtain⟨c5,_,_,_,_,c2,f2,f5,hG6,z2,z5⟩:=hH
       have HTwo:Hid (Two w w.heap.size B5 (fun o=>[I 0,I 0,I 0,Value.string E0][o]?) (fun o=>[I tk,I ta,I tb,Value.string ts][o]?) W6):=⟨c2,c5,f2,f5,hG6,z2,z5⟩
       by_cases hc:cod D m=0
       ·have hc':(cod D m != 0)=false:=by simp[hc]
        have R:Hid (∀j,j<m+1→cod D j=0):=fun j hj=>by
         rcases Nat.lt_or_ge j m with c|c
         ·exact HC.out j c
         ·have:j=m:=by omega
          rw[this];exact hc
        clear hc
        go_wp2
        go_roundw
        case rel=>
         refine⟨m+1,by omega,by go_num,?_,R.out⟩
         have:=two_swap (two_set1 (I nk) (I na) (I nb) (.string ns) (by omega) (by omega) (two_swap HTwo.out))
         unfold Hid SBox
         rw[HTN.out]
         exact this
        case measure=>simp[RowKit.intOf];omega
       ·have hc':(cod D m != 0)=true:=by simpa using hc
        have hE:m0=m:=by
         obtain⟨e1,e2⟩:=HE.out
         rcases Nat.lt_trichotomy m m0 with h|h|h
         ·exact absurd (e1 m h) hc
         ·exact h.symm
         ·rcases e2 with e2|⟨_,e2⟩
          ·omega
          ·exact absurd (HC.out m0 h) e2
        have hRq:rc=cod D m∧q0=Q0:=by
         rcases HR.out with ⟨h,_⟩|⟨_,h1,h2⟩
         ·omega
         ·rw[hE] at h1;exact⟨h1,h2⟩
        have HRq:Hid _:=hRq
        clear hE hc hRq
        generalize hcd:cod D m=cd at hc'⊢
        have HCD:Hid _:=hcd
        clear hcd
        go_wp2
        exact bodyPost_ret (v:=.tuple #[V0,.int .i64 cd]) (by simp[results,results97,go_sem,c2]) rfl ⟨by rw[HRq.out.1,HRq.out.2,HCD.out],by
         repeat(first|exact hG6|refine G.setCell ?_ (Nat.le_refl _) _)⟩
     ·omega
    ·have em:m=D.length:=by omega
     have hRq:rc=0∧q0=(tot D m).2:=by
      obtain⟨e1,e2⟩:=HE.out
      rcases HR.out with ⟨_,h1,h2⟩|⟨h,_⟩
      ·rw[em];exact⟨h1,h2⟩
      ·rcases e2 with e2|⟨_,e2⟩
       ·omega
       ·exact absurd (HC.out m0 (by omega)) e2
     have HRq:Hid _:=hRq
     obtain⟨c2,c5,f2,f5,hG6,z2,z5⟩:=HS.out
     clear HS hRq
     generalize htq:(tot D m).2=tq at c5⊢
     have HTQ:Hid _:=htq
     clear htq
     obtain⟨tk,ta,tb,ts⟩:=tq
     simp only at c5
     have c20:=c2 0
     go_wp2
     exact bodyPost_ret (v:=.tuple #[V tk ta tb ts,.int .i64 0]) (by simp[results,results97,go_sem,c2]) rfl ⟨by rw[HRq.out.1,HRq.out.2,HTQ.out],by
      repeat(first|exact hG6|refine G.setCell ?_ (Nat.le_refl _) _)⟩
end
section
open Go.RowKit Go.Lib Go.Shelf
theorem rsum_nil(w:World):Calls prog 97 #[.slice none 0 0] w fun e w'=>e=.returned (.tuple #[V 2 0 0 E0,.int .i64 0])∧G w w':=by
 go_enter func97,ntmps97
 go_wp2
 go_loopw [4] (fun i W=>i=.int .i64 0∧W=w.alloc (.cells #[I 0,I 0,I 0,.string E0] 31)) (fun _ _=>0)
 case atStart=>exact⟨rfl,rfl⟩
 case round=>
  obtain⟨rfl,rfl⟩:=hrel
  go_wp2_with fail
  refine(rwhole _ _).mono ?_
  rintro e w1 ⟨rfl,hb1⟩
  have hz1:w.heap.size<w1.heap.size:=by have:=hb1.size;simp at this;omega
  have hT:Two w w.heap.size w1.heap.size (fun o=>[I 0,I 0,I 0,Value.string E0][o]?) (fun o=>[I 2,I 0,I 0,Value.string E0][o]?) (w1.alloc (.cells #[I 2,I 0,I 0,.string E0] 31)):=by
   refine⟨?_,fun o=>by simp,?_,fun o=>by simp,(((G.refl w).alloc _).trans hb1).alloc _,by simp;omega,by simp⟩
   ·exact G.cells (hb1.alloc _) (fun o=>by simp) (by simp)
   ·exact G.frozens (hb1.alloc _) (fun o=>by simp) (by simp)
  clear hb1
  have HT0:Hid _:=hT
  clear hT
  generalize hB5:w1.heap.size=B5 at HT0 hz1
  go_wp2
  go_loopw [6] (fun i W=>i=.int .i64 0∧Hid (Two w w.heap.size B5 (fun o=>[I 0,I 0,I 0,Value.string E0][o]?) (fun o=>[I 2,I 0,I 0,Value.string E0][o]?) W)) (fun _ _=>0)
  case atStart=>exact⟨rfl,HT0.out⟩
  case round=>
   obtain⟨rfl,HS⟩:=hrel
   obtain⟨c2,c5,f2,f5,hG6,z2,z5⟩:=HS.out
   clear HS
   go_wp2
   exact bodyPost_ret (v:=.tuple #[V 2 0 0 E0,.int .i64 0]) (by simp[results,results97,go_sem,c2]) rfl ⟨rfl,by
    repeat(first|exact hG6|refine G.setCell ?_ (Nat.le_refl _) _)⟩
theorem sd_any{D:List Qd}(hD:GoodD D){rv:Value}{c:Int}{q:Qd}(h:SR D rv c q)(x:Value)(w:World)(hV:VRow w x D):Calls prog 97 #[x] w fun e w'=>e=.returned (.tuple #[q.W,.int .i64 c])∧G w w':=by
 have hV':=hV
 rcases hV with ⟨rfl,hn⟩|⟨b,off,cap,rfl,_,_⟩
 ·subst hn
  rcases h with ⟨h,_⟩|⟨_,m,_,⟨_,_,rfl,rfl⟩|⟨h,_⟩⟩
  ·cases h
  ·exact rsum_nil w
  ·exact absurd h (Nat.not_lt_zero _)
 ·rcases h with ⟨hA,_,rfl,rfl⟩|⟨hA,m,hm,hr⟩
  ·exact rsum_no' b off cap D hD.2 w hV' hA
  ·exact rsum_yes' b off cap D (good_num hD hA) hD.2 w hV' m hm c q (by
    rcases hr with ⟨h1,_,h2,h3⟩|⟨h1,_,h2,h3⟩
    ·exact .inl ⟨h1,h2,h3⟩
    ·exact .inr ⟨h1,h2,h3⟩)
theorem rmean_zero(a:Option Addr)(cap:Nat)(w:World):Calls prog 98 #[.slice a 0 cap] w fun e w'=>e=.returned (.tuple #[V0,.int .i64 0])∧G w w':=by
 go_enter func98,ntmps98
 go_wp2
 exact bodyPost_ret (v:=.tuple #[V0,.int .i64 0]) (by simp[results,results98,go_sem]) rfl ⟨rfl,by repeat(first|exact G.refl _|refine G.alloc ?_ _|refine G.setCell ?_ (by simp) _)⟩
theorem rmean_err(a:Option Addr)(n cap:Nat)(h0:0<n)(q:Qd)(c:Int)(hc:(c != 0)=true)(w:World)(h:∀W,G w W→Calls prog 97 #[.slice a n cap] W fun e w'=>e=.returned (.tuple #[q.W,.int .i64 c])∧G W w') :
  Calls prog 98 #[.slice a n cap] w fun e w'=>e=.returned (.tuple #[V0,.int .i64 c])∧G w w':=by
 have H:Hid _:=h
 have z:((n:Int)==0)=false:=beq_false_of_ne (by omega)
 clear h h0
 obtain⟨qk,qa,qb,qs⟩:=q
 go_enter func98,ntmps98
 go_wp2_with fail
 refine(H.out _ ((G.refl w).alloc _)).mono ?_
 rintro e w1 ⟨rfl,hb1⟩
 have hz1:w.heap.size<w1.heap.size:=by have:=hb1.size;simp at this;omega
 have g1:G w w1:=((G.refl w).alloc _).trans hb1
 obtain⟨hc1,hf1⟩:=hb1.rules
 go_wp2
 exact bodyPost_ret (v:=.tuple #[V0,.int .i64 c]) (by simp[results,results98,go_sem,hc1,hz1]) rfl ⟨rfl,by
  repeat(first|exact g1|refine G.alloc ?_ _|refine G.setCell ?_ (by simp;try omega) _)⟩
abbrev RM(w:World)(B4:Nat)(tk ta tb:Int)(ts:ByteArray)(W:World):Prop:=(∀(o:Nat),W.cell? {block:=B4,off:=o}=[I tk,I ta,I tb,Value.string ts][o]?)∧G w W∧B4<W.heap.size∧w.heap.size<B4
theorem RM.keep{w W W':World}{B4:Nat}{tk ta tb:Int}{ts:ByteArray}(hb:G W W')(h:RM w B4 tk ta tb ts W):RM w B4 tk ta tb ts W':=
 ⟨G.cells hb h.1 h.2.2.1,h.2.1.trans hb,Nat.lt_of_lt_of_le h.2.2.1 hb.size,h.2.2.2⟩
theorem RM.set{w W:World}{B4:Nat}{tk ta tb:Int}{ts:ByteArray}(j:Nat)(u:Value)(h:RM w B4 tk ta tb ts W):RM w B4 tk ta tb ts (W.setCell ⟨w.heap.size,j,none⟩ u):=
 ⟨fun o=>by rw[World.cell?_setCell_far _ _ _ _ (by have:=h.2.2.2;simp only;omega)];exact h.1 o,h.2.1.setCell (Nat.le_refl _) _,by simpa using h.2.2.1,h.2.2.2⟩
theorem rmean_ok(a:Option Addr)(n cap:Nat)(h0:0<n)(t q:Qd)(c:Int)(w:World)(h:∀W,G w W→Calls prog 97 #[.slice a n cap] W fun e w'=>e=.returned (.tuple #[t.W,.int .i64 0])∧G W w')
  (h2:∀w,Calls prog 47 #[.int .i64 4,t.W,Qd.W (2,(n:Int),0,E0)] w fun e w'=>e=.returned (.tuple #[q.W,.int .i64 c])∧G w w') :
  Calls prog 98 #[.slice a n cap] w fun e w'=>e=.returned (.tuple #[q.W,.int .i64 c])∧G w w':=by
 have H:Hid _:=h
 have H2:Hid _:=h2
 have z:((n:Int)==0)=false:=beq_false_of_ne (by omega)
 clear h h0 h2
 obtain⟨qk,qa,qb,qs⟩:=q
 obtain⟨tk,ta,tb,ts⟩:=t
 go_enter func98,ntmps98
 go_wp2_with fail
 refine(H.out _ ((G.refl w).alloc _)).mono ?_
 rintro e w1 ⟨rfl,hb1⟩
 have hz1:w.heap.size<w1.heap.size:=by have:=hb1.size;simp at this;omega
 have hr0:RM w w1.heap.size tk ta tb ts (w1.alloc (.cells #[I tk,I ta,I tb,.string ts] 31)):=⟨fun o=>by simp,(((G.refl w).alloc _).trans hb1).alloc _,by simp,hz1⟩
 have hA0:∀(o:Nat),(w1.alloc (.cells #[I tk,I ta,I tb,.string ts] 31)).cell? {block:=w.heap.size,off:=o}=[I 0,I 0,I 0,Value.string E0][o]?:=G.cells (hb1.alloc _) (fun o=>by simp) (by simp)
 have hF0:∀(o:Nat),(w1.alloc (.cells #[I tk,I ta,I tb,.string ts] 31)).frozen? {block:=w.heap.size,off:=o}=false:=G.frozens (hb1.alloc _) (fun o=>by simp) (by simp)
 have hz0:w.heap.size<(w1.alloc (.cells #[I tk,I ta,I tb,.string ts] 31)).heap.size:=by simp;omega
 clear hb1
 go_wp2
 generalize (w1.alloc (.cells #[I tk,I ta,I tb,.string ts] 31))=W0 at hr0 hA0 hF0 hz0⊢
 generalize w1.heap.size=B4 at hr0⊢
 clear hz1
 go_region_held3 (fun W=>(∀(o:Nat),W.cell? {block:=B4,off:=o}=[I tk,I ta,I tb,Value.string ts][o]?)∧G w W∧B4<W.heap.size∧w.heap.size<B4)
  ((first|assumption|(repeat(first|exact hr0|assumption|refine RM.set _ _ ?_|refine RM.keep hb6 ?_|refine RM.keep hb5 ?_|refine RM.keep (G.drew (G.refl _)) ?_))))
  (first|(go_at_call 39;refine(rwhole _ _).mono ?_;rintro e w5 ⟨rfl,hb5⟩;obtain⟨hc5,hf5⟩:=hb5.rules;have hz5:w.heap.size<w5.heap.size:=(by have:=hb5.size;first|omega|(simp at this;omega));have hA5:∀(o:Nat),w5.cell? {block:=w.heap.size,off:=o}=[I 0,I 0,I 0,Value.string E0][o]?:=(by intro o;rw[hc5 _ _ (by first|omega|(simp;omega))];first|exact hA0 o|simp[hA0]);have hF5:∀(o:Nat),w5.frozen? {block:=w.heap.size,off:=o}=false:=(by intro o;rw[hf5 _ _ (by first|omega|(simp;omega))];first|exact hF0 o|simp[hF0]);clear hc5 hf5)|(go_at_call 47;refine(H2.out _).mono ?_;rintro e w6 ⟨rfl,hb6⟩;obtain⟨hc6,hf6⟩:=hb6.rules;have hz6:w.heap.size<w6.heap.size:=(by have:=hb6.size;first|omega|(simp at this;omega));have hA6:∀(o:Nat),w6.cell? {block:=w.heap.size,off:=o}=[I 0,I 0,I 0,Value.string E0][o]?:=(by intro o;rw[hc6 _ _ (by first|omega|(simp;omega))];first|exact hA5 o|simp[hA5]);have hF6:∀(o:Nat),w6.frozen? {block:=w.heap.size,off:=o}=false:=(by intro o;rw[hf6 _ _ (by first|omega|(simp;omega))];first|exact hF5 o|simp[hF5]);clear hc6 hf6)|fail)
 rename_i hH
 have hgE:=hH.2.1
 clear hH hb5 hb6 hr0
 go_wp2
 exact bodyPost_ret (v:=.tuple #[V qk qa qb qs,.int .i64 c]) (by simp[results,results98,go_sem,hA6]) rfl ⟨rfl,hgE⟩
theorem mn_any{D:List Qd}(hD:GoodD D){rv:Value}{c:Int}{q:Qd}(h:FR 5 D rv c q)(x:Value)(w:World)(hV:VRow w x D):Calls prog 98 #[x] w fun e w'=>e=.returned (.tuple #[q.W,.int .i64 c])∧G w w':=by
 have nn:D=[]→∃a cap,x=.slice a 0 cap:=fun e=>by
  rcases hV with ⟨rfl,_⟩|⟨g,off,cap,rfl,_,_⟩
  ·exact⟨_,_,rfl⟩
  ·exact⟨_,cap,by rw[e];rfl⟩
 have som:D≠[]→∃a cap,x=.slice a D.length cap:=fun e=>by
  rcases hV with ⟨rfl,hn⟩|⟨g,off,cap,rfl,_,_⟩
  ·exact absurd hn e
  ·exact⟨_,cap,rfl⟩
 rcases h with ⟨h,_⟩|⟨h,_⟩|⟨_,hn,rfl,rfl,rfl⟩|⟨h,_⟩|⟨h,_⟩|⟨_,hne,hm⟩
 iterate 2
  ·omega
 ·obtain⟨a,cap,rfl⟩:=nn hn
  exact rmean_zero a cap w
 iterate 2
  ·omega
 ·obtain⟨a,cap,rfl⟩:=som hne
  have h0:=List.length_pos_iff.2 hne
  rcases hm with ⟨rv0,hs,hc,rfl⟩|⟨rv0,q0,hs,hst⟩
  ·have hq:q=Q0:=by
    rcases hs with ⟨_,_,_,rfl⟩|⟨_,m,_,⟨_,_,h0,_⟩|⟨_,_,_,rfl⟩⟩
    ·rfl
    ·exact absurd h0 hc
    ·rfl
   have hS:=fun W (g:G w W)=>sd_any hD hs _ W (hV.G g)
   rw[hq]
   exact rmean_err a _ cap h0 q c (by simpa using hc) w hS
  ·exact rmean_ok a _ cap h0 q0 q c w (fun W g=>sd_any hD hs _ W (hV.G g)) hst.2.2
end
end Go.Proofs.YthmdjhfbhbheeaaGreatDoor
