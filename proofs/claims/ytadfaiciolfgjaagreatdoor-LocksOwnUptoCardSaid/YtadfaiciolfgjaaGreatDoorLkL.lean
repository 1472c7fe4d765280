import Derived.Shelf.SlicesQ.Index
import Derived.Deep.QuietTactic
import Derived.Deep.RegionHeld3
import Derived.Test.YtadfaiciolfgjaaGreatDoorLk5
import Derived.Test.YtadfaiciolfgjaaGreatDoorLkNm
namespace Go.Proofs.YtadfaiciolfgjaaGreatDoor
open Go.Proofs.Tryz
set_option maxHeartbeats 1000000
set_option maxRecDepth 100000
section
open Go.RowKit Go.Shelf
theorem toList_inj{a b:ByteArray}(h:a.toList=b.toList):a=b:=by
 have:=beq_toListBytes a b
 rw[h,beq_self_eq_true] at this
 cases a with|mk a=>cases b with|mk b=>
  have h2:(a==b)=true:=this
  rw[eq_of_beq h2]
theorem toList_nil{b:ByteArray}:b.toList=[]↔b=ByteArray.empty:=⟨fun h=>toList_inj (h.trans (by first|(simp;done)|kernel_rfl)),fun h=>by rw[h];first|(simp;done)|kernel_rfl⟩
def ResP(r:Rs):Prop:=(r.lv=1∧r.lb=ByteArray.empty∧r.id=0)∨(r.lv=2∧NameP r.lb∧r.id=0)∨(r.lv=3∧r.lb=ByteArray.empty∧1≤r.id)
noncomputable def resB(r:Rs):Bool:=@decide (ResP r) (Classical.propDecidable _)
theorem resB_yes{r:Rs}(h:ResP r):Ending.returned (.bool true)=.returned (.bool (resB r)):=by
 have:resB r=true:=@decide_eq_true _ (Classical.propDecidable _) h
 rw[this]
theorem resB_no{r:Rs}(h:¬ResP r):Ending.returned (.bool false)=.returned (.bool (resB r)):=by
 have:resB r=false:=@decide_eq_false _ (Classical.propDecidable _) h
 rw[this]
theorem resB_iff(r:Rs):resB r=true↔ResP r:=⟨fun h=>@of_decide_eq_true _ (Classical.propDecidable _) h,@decide_eq_true _ (Classical.propDecidable _)⟩
theorem isRes_any(r:Rs)(w:World):Calls prog 18 #[r.v] w fun e w'=>e=.returned (.bool (resB r))∧w'=w.alloc (.cells #[I r.lv,.string r.lb,I r.id] 33):=by
 simp only[Rs.v]
 obtain⟨a,b,c⟩:=r
 simp only
 obtain⟨q,hq⟩:∃q,resB ⟨a,b,c⟩=q:=⟨_,rfl⟩
 have HQ:=hide hq
 rw[hq]
 clear hq
 by_cases h1:a=1
 ·subst h1
  by_cases hb:b=ByteArray.empty
  ·subst hb
   by_cases hc:c=0
   ·subst hc
    go_enter func18,ntmps18
    go_wp2
    go_ret
    exact⟨by rw[←HQ.out];exact resB_yes (.inl ⟨rfl,rfl,rfl⟩),rfl⟩
   ·go_enter func18,ntmps18
    go_wp2
    go_ret
    exact⟨by rw[←HQ.out];exact resB_no (by simp[ResP,hc]),rfl⟩
  ·have hl:¬b.toList=[]:=fun e=>hb (toList_nil.1 e)
   go_enter func18,ntmps18
   go_wp2
   go_ret
   exact⟨by rw[←HQ.out];exact resB_no (by simp[ResP,hb]),rfl⟩
 ·by_cases h2:a=2
  ·subst h2
   by_cases hn:NameP b
   ·have HN:=hide (fun w=>Name_any b w)
    rw[(nameB_iff b).2 hn] at HN
    have HH:=hide hn
    clear hn
    by_cases hc:c=0
    ·subst hc
     go_enter func18,ntmps18
     go_wp2_with (first|(go_at_call 53;refine(HN.out _).mono ?_;rintro e w' ⟨rfl,rfl⟩)|fail)
     go_ret
     exact⟨by rw[←HQ.out];exact resB_yes (.inr (.inl ⟨rfl,HH.out,rfl⟩)),rfl⟩
    ·go_enter func18,ntmps18
     go_wp2_with (first|(go_at_call 53;refine(HN.out _).mono ?_;rintro e w' ⟨rfl,rfl⟩)|fail)
     go_ret
     exact⟨by rw[←HQ.out];exact resB_no (by simp[ResP,hc]),rfl⟩
   ·have HN:=hide (fun w=>Name_any b w)
    have e:nameB b=false:=by
     cases h:nameB b
     ·rfl
     ·exact absurd ((nameB_iff b).1 h) hn
    rw[e] at HN
    have HH:=hide hn
    clear hn e
    go_enter func18,ntmps18
    go_wp2_with (first|(go_at_call 53;refine(HN.out _).mono ?_;rintro e w' ⟨rfl,rfl⟩)|fail)
    go_ret
    exact⟨by rw[←HQ.out];exact resB_no (by simp[ResP,HH.out]),rfl⟩
  ·by_cases h3:a=3
   ·subst h3
    by_cases hc:1≤c
    ·by_cases hb:b=ByteArray.empty
     ·subst hb
      go_enter func18,ntmps18
      go_wp2
      go_ret
      exact⟨by rw[←HQ.out];exact resB_yes (.inr (.inr ⟨rfl,rfl,hc⟩)),rfl⟩
     ·have hl:¬b.toList=[]:=fun e=>hb (toList_nil.1 e)
      go_enter func18,ntmps18
      go_wp2
      go_ret
      exact⟨by rw[←HQ.out];exact resB_no (by simp[ResP,hb]),rfl⟩
    ·go_enter func18,ntmps18
     go_wp2
     go_ret
     exact⟨by rw[←HQ.out];exact resB_no (by simp[ResP];omega),rfl⟩
   ·go_enter func18,ntmps18
    go_wp2
    go_ret
    exact⟨by rw[←HQ.out];exact resB_no (by simp[ResP,h1,h2,h3]),rfl⟩
end
section
open Go.RowKit
theorem drewN_heap(w:World)(n:Nat):(w.drewN n).heap=w.heap:=rfl
theorem G.drewN{a w:World}(h:G a w)(n:Nat):G a (w.drewN n):=h.trans ⟨rfl,rfl,rfl,Nat.le_refl _,fun _ _=>rfl⟩
theorem Chg.drewN{F:Nat→Prop}{a w:World}(h:Chg F a w)(n:Nat):Chg F a (w.drewN n):=h.trans ⟨rfl,rfl,rfl,Nat.le_refl _,fun _ _ _=>rfl⟩
theorem Mp.drewN{α:Type}{enc:α→Value}{k:TypeId}{w:World}{b:Nat}{g:α→Option Value}(h:Mp enc k w b g)(n:Nat):Mp enc k (w.drewN n) b g:=h.keep (by rw[drewN_heap])
theorem Mp.lookN{α:Type}{enc:α→Value}{k:TypeId}{w:World}{b:Nat}{g:α→Option Value}(h:Mp enc k w b g)(Y:Ky enc k){t e:TypeId}(ht:prog.underlying t=some (.map k e)){z:Value}(hz:∀w,(zeroValue e).run prog w=.ok z w){a:α}(ha:KyOk enc k a) :
  ∀n,(Instr.lookup t (.map (some b)) (enc a) false).run prog (w.drewN n)=.ok ((g a).getD z) (w.drewN n):=fun n=>(h.drewN n).look Y ht (hz _) ha
theorem nz_get(n:Int):(nz n).getD (I 0)=I n:=by unfold nz;split<;>simp_all
theorem mode_any(t:Nat)(s:Gs)(x:Int)(r:Rs)(w:World)(p:Pt)(h:TT w t s)(hx:R64 x)(hr:r.ok)(hp:s.lv x=some p):Calls prog 73 #[ptr t,I x,r.v] w fun e w'=>e=.returned (.tuple #[I (if resB r then p.hf r else 0),I (if resB r then 0 else 82)])∧G w w':=by
 have g1:=(G.refl w).alloc (.cells #[I r.lv,.string r.lb,I r.id] 33)
 have KP:=hide (partyOf_any t s x _ (h.G g1) hx)
 rw[hp] at KP
 simp only[ptv,Option.isSome_some,if_true] at KP
 have KR:=hide (isRes_any r (w.alloc (.cells #[I r.lv,.string r.lb,I r.id] 33)))
 have g2:=g1.alloc (.cells #[I r.lv,.string r.lb,I r.id] 33)
 have hpo:=(h.pt x p hp)
 have hcell:=(hpo.blk.G g2).cell
 have hl:=(hpo.hm.G g2).lookN kyR underlying60 zeroValue3 (kyR_ok.2 hr)
 simp only[nz_get] at hl
 simp only[Pt.cells] at hcell
 have hrc:=(Blk.new w [I r.lv,.string r.lb,I r.id] 33).G ((G.refl _).alloc (.cells #[I r.lv,.string r.lb,I r.id] 33))
 have hrc':=hrc.cell
 have HG:=hide g2
 clear hpo g1 g2 hp h hrc
 generalize p.hf r=m at *
 cases hb:resB r with
 | true=>
  rw[hb] at KR
  clear hb
  simp only[Rs.v] at hl⊢
  go_enter func73,ntmps73
  go_wp2_with (first|(go_at_call 17;refine KP.out.mono ?_;rintro e w' ⟨rfl,rfl⟩)|(go_at_call 18;refine KR.out.mono ?_;rintro e w' ⟨rfl,rfl⟩)|fail)
  go_quiet (fail)
  go_wp2
  go_ret2
  exact⟨rfl,HG.out.drewN _⟩
 | false=>
  rw[hb] at KR
  clear hb hl
  simp only[Rs.v]
  go_enter func73,ntmps73
  go_wp2_with (first|(go_at_call 17;refine KP.out.mono ?_;rintro e w' ⟨rfl,rfl⟩)|(go_at_call 18;refine KR.out.mono ?_;rintro e w' ⟨rfl,rfl⟩)|fail)
  go_ret2
  exact⟨rfl,HG.out⟩
end
section
open Go.RowKit
section
variable {P:Program} {ops:Array Oper} {Q:Exit→Act→World→Prop} {md:Region.Mode} {S:World→Prop} {k:Nat}
def wpAnyL(P:Program)(md:Region.Mode)(ops:Array Oper)(Q:Exit→Act→World→Prop)(S:World→Prop)(k:Nat):Nat→Array Bool→Act→World→Prop
 | 0,listed,a,w=>Region.ready md ops listed=[]∧Q .normal a w
 | fuel+1,listed,a,w=>
  (Region.ready md ops listed=[]→Q .normal a w)∧
  ∀i∈Region.ready md ops listed,wpOp P ops Q i (fun a' w'=>(i≠k→S w')∧wpAnyL P md ops Q S k fuel (listed.setIfInBounds i true) a' w') a w
theorem wpAny_of_L:∀(fuel:Nat) (listed:Array Bool) (a:Act) (w:World),wpAnyL P md ops Q S k fuel listed a w→wpAny P md ops Q fuel listed a w
 | 0,_,_,_,h=>h
 | fuel+1,_,_,_,h=>⟨h.1,fun i hi=>wpOp_mono (fun a' w' h'=>wpAny_of_L fuel _ a' w' h'.2) (h.2 i hi)⟩
def waitsB(md:Region.Mode)(ops:Array Oper)(k i:Nat):Bool:=match ops[k]? with|some o=>o.after.any fun e=>Region.binds md e&&(e.on==i)|none=>false
theorem waits_ne{i j:Nat}{listed:Array Bool}(hk:waitsB md ops k i=true)(hi:i∈Region.ready md ops listed)(hj:j∈Region.ready md ops listed):j≠k:=fun e=>by
 subst e
 obtain⟨_,oj,hoj,hall⟩:=mem_ready.1 hj
 unfold waitsB at hk
 rw[hoj] at hk
 simp only[Array.any_eq_true'] at hk
 obtain⟨e,he,hb⟩:=hk
 simp only[Bool.and_eq_true,beq_iff_eq] at hb
 have h1:=hall e he hb.1
 rw[hb.2] at h1
 have h0:=(mem_ready.1 hi).1
 rcases Nat.lt_or_ge i listed.size with h'|h'
 ·simp[h'] at h0 h1;rw[h0] at h1;cases h1
 ·simp[Array.getElem?_eq_none h'] at h1
theorem wpAnyL_first{i:Nat}{oi:Oper}{v:Value}(hi:ops[i]?=some oi)(hsel:∀(j:Nat) (o:Oper) cs b,ops[j]?=some o→o.op≠.select cs b)
  (hQ:∀c a w,Q (.panic c) (a.put oi.dst v) w→Q (.panic c) a w) (hk:waitsB md ops k i=true) (hik:i≠k) :
  ∀(fuel:Nat) (listed:Array Bool) (a:Act) (w:World),
   (∀j oj,ops[j]?=some oj→j≠i→listed.getD j true=false→(∀e∈oj.after,Region.binds md e=true→e.on≠i)→oi.apart ops oj=true)→
   i∈Region.ready md ops listed→YieldsIf P ops S oi v a→S w→
   wpAnyL P md ops Q S k fuel (listed.setIfInBounds i true) (a.put oi.dst v) w→wpAnyL P md ops Q S k (fuel+1) listed a w:=by
 intro fuel
 induction fuel with
 | zero=>
  intro listed a w _ hr hy hS H
  refine⟨fun h=>(by rw[h] at hr;cases hr),fun j hj=>?_⟩
  by_cases hji:j=i
  ·subst hji;exact hy.wpOp hi hS ⟨fun _=>hS,H⟩
  ·have:=ready_mono hj hji
   rw[H.1] at this
   cases this
 | succ fuel ih=>
  intro listed a w hfree hr hy hS H
  refine⟨fun h=>(by rw[h] at hr;cases hr),fun j hj=>?_⟩
  by_cases hji:j=i
  ·subst hji;exact hy.wpOp hi hS ⟨fun _=>hS,H⟩
  ·have h1:=H.2 j (ready_mono hj hji)
   have hjk:j≠k:=waits_ne hk hr hj
   obtain⟨hjun,oj,hoj,hall⟩:=mem_ready.1 hj
   have hnot:∀e∈oj.after,Region.binds md e=true→e.on≠i:=fun e he hb heq=>by
    have h1:=hall e he hb
    have h0:=(mem_ready.1 hr).1
    rw[heq] at h1
    rcases Nat.lt_or_ge i listed.size with h'|h'
    ·simp[h'] at h0 h1;rw[h0] at h1;cases h1
    ·simp[Array.getElem?_eq_none h'] at h1
   have h2:=wpOp_putIf hoj (hfree j oj hoj hji hjun hnot) (fun cs b=>hsel i oi cs b hi) (fun cs b=>hsel j oj cs b hoj) hQ hy h1
   have hfree':∀k ok,ops[k]?=some ok→k≠i→(listed.setIfInBounds j true).getD k true=false→
     (∀e∈ok.after,Region.binds md e=true→e.on≠i)→oi.apart ops ok=true:=fun k ok hk hki hun hno=>by
    refine hfree k ok hk hki ?_ hno
    by_cases hjk:j=k
    ·subst hjk;exact hjun
    ·rw[getD_set_ne true hjk] at hun;exact hun
   refine wpOp_mono (fun a' w' h3=>⟨h3.2.1,ih (listed.setIfInBounds j true) a' w' hfree' (ready_mono hr (Ne.symm hji)) h3.1 (h3.2.1 hjk) ?_⟩) h2
   rw[Array.setIfInBounds_comm _ _ hji]
   exact h3.2.2
theorem wpAnyL_first2{i:Nat}{oi:Oper}{v:Value}(hi:ops[i]?=some oi)(hsel:∀(j:Nat) (o:Oper) cs b,ops[j]?=some o→o.op≠.select cs b)
  (hQ:∀c a w,Q (.panic c) (a.put oi.dst v) w→Q (.panic c) a w) {j0:Nat} (hk0:waitsB md ops k j0=true) (hk:waitsB md ops j0 i=true) :
  ∀(fuel:Nat) (listed:Array Bool) (a:Act) (w:World),listed.getD j0 true=false→
   (∀j oj,ops[j]?=some oj→j≠i→listed.getD j true=false→(∀e∈oj.after,Region.binds md e=true→e.on≠i)→oi.apart ops oj=true)→
   i∈Region.ready md ops listed→YieldsIf P ops S oi v a→S w→
   wpAnyL P md ops Q S k fuel (listed.setIfInBounds i true) (a.put oi.dst v) w→wpAnyL P md ops Q S k (fuel+1) listed a w:=by
 intro fuel
 induction fuel with
 | zero=>
  intro listed a w _ _ hr hy hS H
  refine⟨fun h=>(by rw[h] at hr;cases hr),fun j hj=>?_⟩
  by_cases hji:j=i
  ·subst hji;exact hy.wpOp hi hS ⟨fun _=>hS,H⟩
  ·have:=ready_mono hj hji
   rw[H.1] at this
   cases this
 | succ fuel ih=>
  intro listed a w hj0 hfree hr hy hS H
  refine⟨fun h=>(by rw[h] at hr;cases hr),fun j hj=>?_⟩
  by_cases hji:j=i
  ·subst hji;exact hy.wpOp hi hS ⟨fun _=>hS,H⟩
  ·have h1:=H.2 j (ready_mono hj hji)
   have hjk0:j≠j0:=waits_ne hk hr hj
   have hjk:j≠k:=fun e=>by
    subst e
    obtain⟨_,oj,hoj,hall⟩:=mem_ready.1 hj
    unfold waitsB at hk0
    rw[hoj] at hk0
    simp only[Array.any_eq_true'] at hk0
    obtain⟨e,he,hb⟩:=hk0
    simp only[Bool.and_eq_true,beq_iff_eq] at hb
    have h1:=hall e he hb.1
    rw[hb.2] at h1
    rcases Nat.lt_or_ge j0 listed.size with h'|h'
    ·simp[h'] at hj0 h1;rw[hj0] at h1;cases h1
    ·simp[Array.getElem?_eq_none h'] at h1
   obtain⟨hjun,oj,hoj,hall⟩:=mem_ready.1 hj
   have hnot:∀e∈oj.after,Region.binds md e=true→e.on≠i:=fun e he hb heq=>by
    have h1:=hall e he hb
    have h0:=(mem_ready.1 hr).1
    rw[heq] at h1
    rcases Nat.lt_or_ge i listed.size with h'|h'
    ·simp[h'] at h0 h1;rw[h0] at h1;cases h1
    ·simp[Array.getElem?_eq_none h'] at h1
   have h2:=wpOp_putIf hoj (hfree j oj hoj hji hjun hnot) (fun cs b=>hsel i oi cs b hi) (fun cs b=>hsel j oj cs b hoj) hQ hy h1
   have hfree':∀k ok,ops[k]?=some ok→k≠i→(listed.setIfInBounds j true).getD k true=false→
     (∀e∈ok.after,Region.binds md e=true→e.on≠i)→oi.apart ops ok=true:=fun k ok hk hki hun hno=>by
    refine hfree k ok hk hki ?_ hno
    by_cases hjk:j=k
    ·subst hjk;exact hjun
    ·rw[getD_set_ne true hjk] at hun;exact hun
   refine wpOp_mono (fun a' w' h3=>⟨h3.2.1,ih (listed.setIfInBounds j true) a' w' (by rw[getD_set_ne true hjk0];exact hj0) hfree' (ready_mono hr (Ne.symm hji)) h3.1 (h3.2.1 hjk) ?_⟩) h2
   rw[Array.setIfInBounds_comm _ _ hji]
   exact h3.2.2
theorem wpAnyL_take{i:Nat}{oi:Oper}{v:Value}{fuel:Nat}{listed:Array Bool}{a:Act}{w:World}(hi:ops[i]?=some oi)
  (hs:Region.noSelect ops=true) (hf:Region.free md ops listed i=true) (hr:(Region.ready md ops listed).contains i=true) (hk:(waitsB md ops k i&&(i != k))=true)
  (hQ:∀c a w,Q (.panic c) (a.put oi.dst v) w→Q (.panic c) a w) (hy:YieldsIf P ops S oi v a) (hS:S w)
  (h:wpAnyL P md ops Q S k fuel (listed.setIfInBounds i true) (a.put oi.dst v) w):wpAnyL P md ops Q S k (fuel+1) listed a w:=by
 simp only[Bool.and_eq_true,bne_iff_ne] at hk
 exact wpAnyL_first hi (Region.noSelect_spec hs) hQ hk.1 hk.2 fuel listed a w (Region.free_spec hi hf) (by simpa using hr) hy hS h
theorem wpAnyL_take2{i:Nat}{oi:Oper}{v:Value}{fuel:Nat}{listed:Array Bool}{a:Act}{w:World}(j0:Nat)(hi:ops[i]?=some oi)
  (hs:Region.noSelect ops=true) (hf:Region.free md ops listed i=true) (hr:(Region.ready md ops listed).contains i=true) (hk:(waitsB md ops k j0&&waitsB md ops j0 i&&!(listed.getD j0 true))=true)
  (hQ:∀c a w,Q (.panic c) (a.put oi.dst v) w→Q (.panic c) a w) (hy:YieldsIf P ops S oi v a) (hS:S w)
  (h:wpAnyL P md ops Q S k fuel (listed.setIfInBounds i true) (a.put oi.dst v) w):wpAnyL P md ops Q S k (fuel+1) listed a w:=by
 simp only[Bool.and_eq_true,Bool.not_eq_true'] at hk
 exact wpAnyL_first2 hi (Region.noSelect_spec hs) hQ hk.1.1 hk.1.2 fuel listed a w hk.2 (Region.free_spec hi hf) (by simpa using hr) hy hS h
theorem wpAnyL_one{i:Nat}{o:Oper}{fuel:Nat}{listed:Array Bool}{a:Act}{w:World}(hr:Region.ready md ops listed=[i])(ho:ops[i]?=some o)(hik:(i != k)=true)
  (h:∀K':Act→World→Prop,Shut (∀a w,S w→(S w→wpAnyL P md ops Q S k fuel (listed.setIfInBounds i true) a w)→K' a w)→if Region.wanted o (yielded ops a.tmps)=true then Oper.wp P o a w K' Q else K' (a.put o.dst undef) w) :
  wpAnyL P md ops Q S k (fuel+1) listed a w:=by
 refine⟨fun h0=>absurd (hr.symm.trans h0) (by simp),fun j hj=>?_⟩
 rw[hr] at hj
 obtain rfl:=List.mem_singleton.1 hj
 exact wpOp_step ho (fun K' hK=>h K' (fun a w hS hW=>hK a w ⟨fun _=>hS,hW hS⟩))
theorem wpAnyL_last{o:Oper}{fuel:Nat}{listed:Array Bool}{a:Act}{w:World}(hr:Region.ready md ops listed=[k])(ho:ops[k]?=some o)(hd:Region.ready md ops (listed.setIfInBounds k true)=[])
  (h:∀K':Act→World→Prop,Shut (∀a w,Q .normal a w→K' a w)→if Region.wanted o (yielded ops a.tmps)=true then Oper.wp P o a w K' Q else K' (a.put o.dst undef) w) :
  wpAnyL P md ops Q S k (fuel+1) listed a w:=by
 refine⟨fun h0=>absurd (hr.symm.trans h0) (by simp),fun j hj=>?_⟩
 rw[hr] at hj
 obtain rfl:=List.mem_singleton.1 hj
 refine wpOp_step ho (fun K' hK=>h K' (fun a w hW=>hK a w ⟨fun hn=>absurd rfl hn,?_⟩))
 cases fuel with
 | zero=>exact⟨hd,hW⟩
 | succ n=>exact⟨fun _=>hW,fun i hi=>by rw[hd] at hi;cases hi⟩
theorem wp_region_L{id:Nat}{a:Act}{w:World}(k:Nat)(hm:P.follows .mixedOrders=true)(hS:S w.drew)
  (h:S w.drew→wpAnyL P .any ops Q S k ops.size (Array.replicate ops.size false) a w.drew):(Code.region id ops true).wp P Q a w:=
 wp_region_any hm (wpAny_of_L _ _ _ _ (h hS))
end
end
end Go.Proofs.YtadfaiciolfgjaaGreatDoor
