import Derived.Lib.LaidTab
import Derived.Lib.LaidU8T
import Derived.Maps.RangeWalk
import Derived.DeepKeys4
import Derived.LoopTactic
import Derived.Test.YtadfaiciolfgjaaGreatDoorLk0
namespace Go.Proofs.YtadfaiciolfgjaaGreatDoor
open Go.Proofs.Tryz
set_option maxHeartbeats 1000000
set_option maxRecDepth 100000
section
open Go.RowKit Go.Lib
theorem arr_cells{H α:Type}{enc:TypeId×Value→H}{P:Program}{w:World}{base:Nat}{sp:Nat→Bool}{held:Bool}{fuel:Nat}{t e:TypeId}{n m:Nat}{cs:List Value}{zs:List α}{p:List MemPlace}
  (dl:α→DataW H) (vl:α→List Value) (hleaf:∀fuel c z q,DataW.trod enc P w base sp held fuel e c=some (dl z,q)→c=vl z)
  (ht:P.underlying t=some (.array n e)) (hce:P.cellsOf e=m) (hct:P.cellsOf t=n*m) (h:DataW.trod enc P w base sp held fuel t cs=some (.agg (zs.map dl),p)) :
  cs.length=n*m∧zs.length=n∧∀i z,zs[i]?=some z→(cs.drop (i*m)).take m=vl z:=by
 cases fuel with
 | zero=>simp[DataW.trod] at h
 | succ fuel=>
  simp only[DataW.trod,ht,hce,hct] at h
  split at h
  ·rename_i hl
   obtain⟨xs,hm,hx⟩:=Option.map_eq_some_iff.1 h
   have hxs:xs.map (·.1)=zs.map dl:=by
    have:=congrArg Prod.fst hx
    simpa using this
   have hxl:xs.length=n:=by simpa using Lib.mapM_length hm
   have hzl:zs.length=n:=by
    have:=congrArg List.length hxs
    simp at this
    omega
   refine⟨hl,hzl,fun i z hz=>?_⟩
   have hi:i<n:=by rw[←hzl];exact(List.getElem?_eq_some_iff.1 hz).1
   obtain⟨b,hb,hf⟩:=Lib.mapM_at hm i i (by simp[hi])
   have h2:(xs.map (·.1))[i]?=some b.1:=by simp[hb]
   rw[hxs,List.getElem?_map,hz] at h2
   have h3:dl z=b.1:=by simpa using h2
   exact hleaf fuel _ z b.2 (by rw[hf,h3])
  ·cases h
theorem at_of_rows{cs:List Value}{m i j:Nat}{v:List Value}(h:(cs.drop (i*m)).take m=v)(hj:j<m):cs[i*m+j]?=v[j]?:=by
 rw[←h,List.getElem?_take,if_pos hj,List.getElem?_drop]
def boolData{H:Type}(zs:List Bool):DataW H:=.agg (zs.map fun z=>.lit (.bool z))
def fitR:List (List Bool):=[[false,false,false,false,false,false],[false,true,true,true,true,false],[false,true,true,false,false,false],[false,true,false,true,false,false],[false,true,false,false,false,false],[false,false,false,false,false,false]]
def joinR:List (List Int):=[[0,1,2,3,4,5],[1,1,2,3,4,5],[2,2,2,4,4,5],[3,3,4,3,4,5],[4,4,4,4,4,5],[5,5,5,5,5,5]]
theorem ints_leaf{H:Type}{enc:TypeId×Value→H}{w:World}{base:Nat}{sp:Nat→Bool}{held:Bool}:∀fuel c (z:List Int) q,DataW.trod enc prog w base sp held fuel 103 c=some (tabData .i64 z,q)→c=z.map fun x=>I x:=
 fun _ _ _ _ h=>cells_of_tab underlying103 underlying3 (by kernel_rfl) (by kernel_rfl) h
theorem bools_leaf{H:Type}{enc:TypeId×Value→H}{w:World}{base:Nat}{sp:Nat→Bool}{held:Bool}:∀fuel c (z:List Bool) q,DataW.trod enc prog w base sp held fuel 152 c=some (boolData z,q)→c=z.map fun x=>Value.bool x:=fun fuel c z q h=>by
 obtain⟨h1,h2,h3⟩:=arr_cells (m:=1) (fun x:Bool=>(DataW.lit (.bool x):DataW H)) (fun x=>[.bool x]) (fun _ _ _ _ h=>by
  obtain⟨b,rfl,hx⟩:=DataW.trod_bool underlying4 h
  simp at hx
  rw[hx.1]) underlying152 (by kernel_rfl) (by kernel_rfl) h
 apply List.ext_getElem?
 intro i
 by_cases hi:i<6
 ·have hz:z[i]?=some z[i]:=List.getElem?_eq_getElem (by omega)
  have:=at_of_rows (j:=0) (h3 i _ hz) (by decide)
  simp at this
  rw[this,List.getElem?_map,hz]
  rfl
 ·rw[List.getElem?_eq_none (by omega),List.getElem?_eq_none (by simp;omega)]
theorem tb_of{W:World}(h1:VarReads prog W "trellis/locks.fits" (.agg (fitR.map boolData))) (h2:VarReads prog W "trellis/locks.joins" (.agg (joinR.map (tabData .i64)))):Tb W:=by
 obtain⟨g,t,cs,fuel,p,hg,hty,hvar,hd⟩:=h1
 obtain rfl:1=g:=Option.some.inj ((show prog.globalNamed "trellis/locks.fits"=some 1 by kernel_rfl).symm.trans hg)
 obtain rfl:153=t:=Option.some.inj ((show(prog.globals[1]?).map (·.type)=some 153 by kernel_rfl).symm.trans hty)
 obtain⟨g',t',cs',fuel',p',hg',hty',hvar',hd'⟩:=h2
 obtain rfl:0=g':=Option.some.inj ((show prog.globalNamed "trellis/locks.joins"=some 0 by kernel_rfl).symm.trans hg')
 obtain rfl:104=t':=Option.some.inj ((show(prog.globals[0]?).map (·.type)=some 104 by kernel_rfl).symm.trans hty')
 obtain⟨l1,_,r1⟩:=arr_cells (m:=6) boolData (fun z=>z.map fun x=>Value.bool x) bools_leaf underlying153 (by kernel_rfl) (by kernel_rfl) hd
 obtain⟨l2,_,r2⟩:=arr_cells (m:=6) (tabData .i64) (fun z=>z.map fun x=>I x) ints_leaf underlying104 (by kernel_rfl) (by kernel_rfl) hd'
 have hc:=World.var?_cell hg hvar
 have hc':=World.var?_cell hg' hvar'
 have size:∀{g:Nat} {v:Value},W.cell? ⟨g,0,none⟩=some v→g<W.heap.size:=fun {g v} h0=>Nat.lt_of_not_le fun hle=>by
  have:W.heap[g]?=none:=Array.getElem?_eq_none hle
  simp[World.cell?,this] at h0
 have k1:∀i,i<36→W.cell? ⟨1,i,none⟩=some (.bool (fitT.getD i false)):=fun i hi=>by
  have hr:=r1 (i/6) (fitR.getD (i/6) []) (by
   have:i/6=0∨i/6=1∨i/6=2∨i/6=3∨i/6=4∨i/6=5:=by omega
   rcases this with e|e|e|e|e|e<;>rw[e]<;>rfl)
  have:=at_of_rows (j:=i%6) hr (by omega)
  rw[show i/6*6+i%6=i by omega] at this
  rw[hc i,←Array.getElem?_toList,this,List.getElem?_map]
  have e:(fitR.getD (i/6) [])[i%6]?=some (fitT.getD i false):=(by decide:∀i:Fin 36,(fitR.getD (i.val/6) [])[i.val%6]?=some (fitT.getD i.val false)) ⟨i,hi⟩
  rw[e]
  rfl
 have k2:∀i,i<36→W.cell? ⟨0,i,none⟩=some (I (joinT.getD i 0)):=fun i hi=>by
  have hr:=r2 (i/6) (joinR.getD (i/6) []) (by
   have:i/6=0∨i/6=1∨i/6=2∨i/6=3∨i/6=4∨i/6=5:=by omega
   rcases this with e|e|e|e|e|e<;>rw[e]<;>rfl)
  have:=at_of_rows (j:=i%6) hr (by omega)
  rw[show i/6*6+i%6=i by omega] at this
  rw[hc' i,←Array.getElem?_toList,this,List.getElem?_map]
  have e:(joinR.getD (i/6) [])[i%6]?=some (joinT.getD i 0):=(by decide:∀i:Fin 36,(joinR.getD (i.val/6) [])[i.val%6]?=some (joinT.getD i.val 0)) ⟨i,hi⟩
  rw[e]
  rfl
 exact⟨size (k1 0 (by decide)),size (k2 0 (by decide)),k1,k2⟩
end
section
open Go.RowKit
theorem modeB_pos{a:Int}(h1:1≤a)(h2:a≤5):modeB a=true:=by simp[modeB,h1,h2]
theorem modeB_neg{a:Int}(h:¬(1≤a∧a≤5)):modeB a=false:=by
 unfold modeB;by_cases h1:1≤a<;>by_cases h2:a≤5<;>simp[h1,h2];omega
theorem modeB_iff{a:Int}:modeB a=true↔1≤a∧a≤5:=by simp[modeB]
theorem isMode_any(a:Int)(w:World):Calls prog 19 #[I a] w fun e w'=>e=.returned (.bool (modeB a))∧w'=w:=by
 by_cases h1:1≤a
 ·by_cases h2:a≤5
  ·go_enter func19,ntmps19
   go_wp2
   go_ret
   exact⟨by rw[modeB_pos h1 h2];rfl,rfl⟩
  ·go_enter func19,ntmps19
   go_wp2
   go_ret
   exact⟨by rw[modeB_neg (by omega)];rfl,rfl⟩
 ·go_enter func19,ntmps19
  go_wp2
  go_ret
  exact⟨by rw[modeB_neg (by omega)];rfl,rfl⟩
theorem fits_any(a b:Int)(w:World)(ht:Tb w):Calls prog 88 #[I a,I b] w fun e w'=>e=.returned (.bool (fitB a b))∧w'=w:=by
 have ka:=isMode_any a w
 have kb:=isMode_any b w
 by_cases h1:1≤a∧a≤5
 ·rw[modeB_pos h1.1 h1.2] at ka
  have KA:=hide ka
  by_cases h2:1≤b∧b≤5
  ·rw[modeB_pos h2.1 h2.2] at kb
   obtain⟨n,rfl⟩:∃n:Nat,a=n:=⟨a.toNat,by omega⟩
   obtain⟨m,rfl⟩:∃m:Nat,b=m:=⟨b.toNat,by omega⟩
   have hc:=ht.f (n*6+m) (by omega)
   have KB:=hide kb
   clear ka kb ht
   have hn:n<6:=by omega
   have hm:m<6:=by omega
   go_enter func88,ntmps88
   go_wp2_with (first|(go_at_call 19;with_reducible refine(KA.out).mono ?_;rintro e w' ⟨rfl,rfl⟩)|(go_at_call 19;with_reducible refine(KB.out).mono ?_;rintro e w' ⟨rfl,rfl⟩)|fail)
   go_ret
   exact⟨by simp[fitB,modeB_pos h1.1 h1.2,modeB_pos h2.1 h2.2],rfl⟩
  ·rw[modeB_neg h2] at kb
   have KB:=hide kb
   have e:fitB a b=false:=by simp[fitB,modeB_neg h2]
   clear ka kb ht
   rw[e]
   go_enter func88,ntmps88
   go_wp2_with (first|(go_at_call 19;with_reducible refine(KA.out).mono ?_;rintro e w' ⟨rfl,rfl⟩)|(go_at_call 19;with_reducible refine(KB.out).mono ?_;rintro e w' ⟨rfl,rfl⟩)|fail)
   go_ret
   exact⟨rfl,rfl⟩
 ·rw[modeB_neg h1] at ka
  have KA:=hide ka
  have KB:=hide kb
  have e:fitB a b=false:=by simp[fitB,modeB_neg h1]
  clear ka kb ht
  rw[e]
  go_enter func88,ntmps88
  go_wp2_with (first|(go_at_call 19;with_reducible refine(KA.out).mono ?_;rintro e w' ⟨rfl,rfl⟩)|(go_at_call 19;with_reducible refine(KB.out).mono ?_;rintro e w' ⟨rfl,rfl⟩)|fail)
  go_ret
  exact⟨rfl,rfl⟩
def jm(a:Int):Prop:=a=0∨(1≤a∧a≤5)
theorem joinI_no{a b:Int}(h:¬(jm a∧jm b)):joinI a b=0:=by
 unfold joinI;rw[if_neg];simpa [jm,modeB_iff] using h
theorem joinI_yes{a b:Int}(h1:jm a)(h2:jm b):joinI a b=joinT.getD (a.toNat*6+b.toNat) 0:=by
 unfold joinI;rw[if_pos];simpa [jm,modeB_iff] using And.intro h1 h2
theorem joins_any(a b:Int)(w:World)(ht:Tb w):Calls prog 20 #[I a,I b] w fun e w'=>e=.returned (I (joinI a b))∧w'=w:=by
 have KA:=hide (isMode_any a w)
 have KB:=hide (isMode_any b w)
 by_cases h1:jm a
 ·by_cases h2:jm b
  ·rw[joinI_yes h1 h2]
   have ha:modeB a=true∨a=0:=h1.symm.imp (fun h=>modeB_iff.2 h) id
   have hb:modeB b=true∨b=0:=h2.symm.imp (fun h=>modeB_iff.2 h) id
   obtain⟨n,rfl⟩:∃n:Nat,a=n:=⟨a.toNat,by rcases h1 with h|h<;>omega⟩
   obtain⟨m,rfl⟩:∃m:Nat,b=m:=⟨b.toNat,by rcases h2 with h|h<;>omega⟩
   have hn:n<6:=by rcases h1 with h|h<;>omega
   have hm:m<6:=by rcases h2 with h|h<;>omega
   have hc:=ht.j (n*6+m) (by omega)
   clear h1 h2 ht
   rcases ha with ha|ha
   ·have n0:¬n=0:=by have:=modeB_iff.1 ha;omega
    rw[ha] at KA
    rcases hb with hb|hb
    ·have m0:¬m=0:=by have:=modeB_iff.1 hb;omega
     rw[hb] at KB
     clear ha hb
     go_enter func20,ntmps20
     go_wp2_with (first|(go_at_call 19;with_reducible refine(KA.out).mono ?_;rintro e w' ⟨rfl,rfl⟩)|(go_at_call 19;with_reducible refine(KB.out).mono ?_;rintro e w' ⟨rfl,rfl⟩)|fail)
     go_ret
     exact⟨by first|rfl|simp,rfl⟩
    ·obtain rfl:m=0:=by omega
     rw[Nat.add_zero] at hc
     clear ha hb
     go_enter func20,ntmps20
     go_wp2_with (first|(go_at_call 19;with_reducible refine(KA.out).mono ?_;rintro e w' ⟨rfl,rfl⟩)|(go_at_call 19;with_reducible refine(KB.out).mono ?_;rintro e w' ⟨rfl,rfl⟩)|fail)
     go_ret
     exact⟨by first|rfl|simp,rfl⟩
   ·obtain rfl:n=0:=by omega
    rcases hb with hb|hb
    ·have m0:¬m=0:=by have:=modeB_iff.1 hb;omega
     rw[hb] at KB
     rw[Nat.zero_mul,Nat.zero_add] at hc
     clear ha hb
     go_enter func20,ntmps20
     go_wp2_with (first|(go_at_call 19;with_reducible refine(KA.out).mono ?_;rintro e w' ⟨rfl,rfl⟩)|(go_at_call 19;with_reducible refine(KB.out).mono ?_;rintro e w' ⟨rfl,rfl⟩)|fail)
     go_ret
     exact⟨by first|rfl|simp,rfl⟩
    ·obtain rfl:m=0:=by omega
     clear ha hb
     go_enter func20,ntmps20
     go_wp2_with (first|(go_at_call 19;with_reducible refine(KA.out).mono ?_;rintro e w' ⟨rfl,rfl⟩)|(go_at_call 19;with_reducible refine(KB.out).mono ?_;rintro e w' ⟨rfl,rfl⟩)|fail)
     go_ret
     exact⟨by first|rfl|simp,rfl⟩
  ·rw[joinI_no (fun h=>h2 h.2)]
   rw[modeB_neg (fun h=>h2 (.inr h))] at KB
   have m0:¬b=0:=fun h=>h2 (.inl h)
   clear ht h2
   rcases h1 with rfl|h1
   ·go_enter func20,ntmps20
    go_wp2_with (first|(go_at_call 19;with_reducible refine(KA.out).mono ?_;rintro e w' ⟨rfl,rfl⟩)|(go_at_call 19;with_reducible refine(KB.out).mono ?_;rintro e w' ⟨rfl,rfl⟩)|fail)
    go_ret
    exact⟨by first|rfl|simp,rfl⟩
   ·rw[modeB_pos h1.1 h1.2] at KA
    have n0:¬a=0:=by omega
    go_enter func20,ntmps20
    go_wp2_with (first|(go_at_call 19;with_reducible refine(KA.out).mono ?_;rintro e w' ⟨rfl,rfl⟩)|(go_at_call 19;with_reducible refine(KB.out).mono ?_;rintro e w' ⟨rfl,rfl⟩)|fail)
    go_ret
    exact⟨by first|rfl|simp,rfl⟩
 ·rw[joinI_no (fun h=>h1 h.1)]
  rw[modeB_neg (fun h=>h1 (.inr h))] at KA
  have n0:¬a=0:=fun h=>h1 (.inl h)
  clear ht h1
  go_enter func20,ntmps20
  go_wp2_with (first|(go_at_call 19;with_reducible refine(KA.out).mono ?_;rintro e w' ⟨rfl,rfl⟩)|(go_at_call 19;with_reducible refine(KB.out).mono ?_;rintro e w' ⟨rfl,rfl⟩)|fail)
  go_ret
  exact⟨by first|rfl|simp,rfl⟩
end
section
open Go.RowKit Go.Maps
open Go.WideElems (Fit rd rg pl rd_key rd_val rg_of)
def hE(v:Value):Option (DataW Value×List MemPlace):=some (.held v,[])
def getH(D:DataW Value)(kl:Lit):Option Value:=match D.atKey kl .nil with|.held v=>some v|_=>none
section
variable {k:TypeId} {w:World} {b n:Nat} {D:DataW Value}
theorem own_elems(h:w.ownsMap prog k hE b n D):∃es,D=.map es∧∀p∈es,∃v,p.2=.held v:=by
 obtain⟨es,clock,_,F,_,rfl⟩:=h
 refine⟨_,rfl,fun p hp=>?_⟩
 obtain⟨x,hx,rfl⟩:=List.mem_map.1 (mem_sorted.1 hp)
 obtain⟨y,hy⟩:=F.reads x hx
 obtain⟨z,hz,hzd⟩:=rd_val hy
 rw[rg_of hy]
 simp[hE] at hz
 exact⟨x.val,by rw[hzd,←hz]⟩
theorem atKey_getH(h:w.ownsMap prog k hE b n D)(kl:Lit)(z:Value):D.atKey kl (.held z)=.held ((getH D kl).getD z):=by
 obtain⟨es,rfl,he⟩:=own_elems h
 simp only[getH,DataW.atKey]
 cases hf:es.find? (fun p=>p.1.sameKey kl)with
 | none=>simp
 | some p=>
  obtain⟨v,hv⟩:=he p (List.mem_of_find?_eq_some hf)
  simp[hv]
theorem getH_some(h:w.ownsMap prog k hE b n D){kl:Lit}{v:Value}(hg:getH D kl=some v):∀z,D.atKey kl z=.held v:=by
 obtain⟨es,rfl,he⟩:=own_elems h
 intro z
 simp only[getH,DataW.atKey] at hg⊢
 cases hf:es.find? (fun p=>p.1.sameKey kl)with
 | none=>simp[hf] at hg
 | some p=>
  obtain⟨u,hu⟩:=he p (List.mem_of_find?_eq_some hf)
  simp[hf,hu] at hg
  simp[hu,hg]
theorem getH_of_at{kl:Lit}{v:Value}(h:∀z,D.atKey kl z=.held v):getH D kl=some v:=by simp[getH,h]
theorem getH_has(h:w.ownsMap prog k hE b n D)(kl:Lit):Maps.has D kl=(getH D kl).isSome:=by
 cases hg:getH D kl with
 | some v=>rw[has_true_of_atKey (getH_some h hg)];rfl
 | none=>
  obtain⟨es,rfl,he⟩:=own_elems h
  simp only[getH,DataW.atKey] at hg
  cases hf:es.find? (fun p=>p.1.sameKey kl)with
  | none=>
   simp only[has_eq,Option.isSome_none]
   rw[List.find?_eq_none] at hf
   cases ha:es.any (fun p=>p.1.sameKey kl)with
   | false=>rfl
   | true=>
    obtain⟨p,hp,hpk⟩:=List.any_eq_true.1 ha
    exact absurd hpk (hf p hp)
  | some p=>
   obtain⟨u,hu⟩:=he p (List.mem_of_find?_eq_some hf)
   simp[hf,hu] at hg
end
theorem getH_put_same{w:World}{k:TypeId}{b n:Nat}{D:DataW Value}(h:w.ownsMap prog k hE b n D){kl:Lit}(hk:WideAt.IsKeyLit kl)(v:Value):getH (D.put kl (.held v)) kl=some v:=by
 simp only[getH,atKey_put_same h.isMap hk]
theorem getH_put_other{D:DataW Value}{kl kl':Lit}(v:Value)(hn:kl'≠kl):getH (D.put kl (.held v)) kl'=getH D kl':=by
 simp only[getH,atKey_put_other hn]
theorem getH_del_same{D:DataW Value}{kl:Lit}:getH (D.del kl) kl=none:=by simp only[getH,atKey_del_same]
theorem getH_del_other{D:DataW Value}{kl kl':Lit}(hn:kl'≠kl):getH (D.del kl) kl'=getH D kl':=by simp only[getH,atKey_del_other hn]
structure Ky{α:Type}(enc:α→Value)(k:TypeId):Prop where
 keyed:Keyed prog k
 inj:∀{a b:α},enc a=enc b→a=b
 sur:∀{v:Value} {kl:Lit},keyOf prog k v=some kl→∃a,v=enc a
def KyOk{α:Type}(enc:α→Value)(k:TypeId)(a:α):Prop:=∃kl,keyOf prog k (enc a)=some kl
def Mp{α:Type}(enc:α→Value)(k:TypeId)(w:World)(b:Nat)(g:α→Option Value):Prop:=
 ∃n D,w.ownsMap prog k hE b n D∧∀a kl,keyOf prog k (enc a)=some kl→getH D kl=g a
def upd{α β:Type} [DecidableEq α](g:α→β)(a:α)(v:β):α→β:=fun x=>if x=a then v else g x
@[simp] theorem upd_same {α β:Type} [DecidableEq α] (g:α→β) (a:α) (v:β):upd g a v a=v:=by simp[upd]
theorem upd_other{α β:Type} [DecidableEq α]{g:α→β}{a x:α}{v:β}(h:x≠a):upd g a v x=g x:=by simp[upd,h]
theorem nodup_len{α:Type}:∀(l m:List α),l.Pairwise (·≠·)→(∀x∈l,x∈m)→l.length≤m.length
 | [],_,_,_=>by simp
 | x::l,m,hp,hs=>by
  classical
  obtain⟨h1,h2⟩:=List.pairwise_cons.1 hp
  have hx:=hs x (by simp)
  have e:(m.filter fun y=>decide (y≠x)).length<m.length:=by
   have:m.length≠(m.filter fun y=>decide (y≠x)).length:=fun e=>by
    have:=(List.length_filter_eq_length_iff (p:=fun y=>decide (y≠x)) (l:=m)).1 e.symm x hx
    simp at this
   have:=List.length_filter_le (fun y=>decide (y≠x)) m
   omega
  have:=nodup_len l (m.filter fun y=>decide (y≠x)) h2 (fun y hy=>by simp;exact⟨hs y (by simp[hy]),fun e=>h1 y hy e.symm⟩)
  simp
  omega
section
variable {α:Type} {enc:α→Value} {k:TypeId} {w w':World} {b:Nat} {g:α→Option Value}
theorem Mp.lt(h:Mp enc k w b g):b<w.heap.size:=by obtain⟨_,_,h,_⟩:=h;exact h.lt
theorem Mp.keep(h:Mp enc k w b g)(hb:w'.heap[b]?=w.heap[b]?):Mp enc k w' b g:=by
 obtain⟨n,D,⟨es,clock,h1,h2⟩,h3⟩:=h
 exact⟨n,D,⟨es,clock,hb.trans h1,h2⟩,h3⟩
theorem Mp.G(h:Mp enc k w b g)(hg:Go.Proofs.YtadfaiciolfgjaaGreatDoor.G w w'):Mp enc k w' b g:=h.keep (hg.block b h.lt)
theorem Mp.chg{F:Nat→Prop}(h:Mp enc k w b g)(hg:Chg F w w')(hF:¬F b):Mp enc k w' b g:=h.keep (hg.block b h.lt hF)
theorem Mp.congr{g':α→Option Value}(h:Mp enc k w b g)(e:∀a,g a=g' a):Mp enc k w b g':=by
 obtain⟨n,D,h1,h2⟩:=h
 exact⟨n,D,h1,fun a kl hk=>(h2 a kl hk).trans (e a)⟩
theorem Mp.ne(h:Mp enc k w b g){q:Nat}{e:TypeId}{xs:List Value}(hq:Blk w q e xs):b≠q:=fun e=>by
 subst e
 obtain⟨_,_,⟨es,clock,h1,_⟩,_⟩:=h
 have:=hq.h
 rw[h1] at this
 cases this
theorem Mp.made(w:World)(enc:α→Value)(k:TypeId):Mp enc k (w.alloc (.map #[] 0)) w.heap.size (fun _=>none):=
 ⟨0,_,World.ownsMap_made w prog k hE,fun _ _ _=>rfl⟩
theorem Mp.look(h:Mp enc k w b g)(Y:Ky enc k){t e:TypeId}(ht:prog.underlying t=some (.map k e)){z:Value}(hz:(zeroValue e).run prog w=.ok z w){a:α}(ha:KyOk enc k a) :
  (Instr.lookup t (.map (some b)) (enc a) false).run prog w=.ok ((g a).getD z) w:=by
 obtain⟨n,D,h1,h2⟩:=h
 obtain⟨kl,hk⟩:=ha
 obtain⟨v,ps,hr,hv⟩:=h1.lookup Y.keyed ht hz (zd:=.held z) (zp:=[]) rfl hk
 rw[hr]
 simp only[hE,atKey_getH h1,Option.some.injEq,Prod.mk.injEq,DataW.held.injEq] at hv
 rw[hv.1,h2 a kl hk]
theorem Mp.small(h:Mp enc k w b g)(Y:Ky enc k)(L:List α)(hL:∀a,KyOk enc k a→g a≠none→a∈L):∃D,w.ownsMap prog k hE b L.length D∧∀a kl,keyOf prog k (enc a)=some kl→getH D kl=g a:=by
 obtain⟨n,D,h1,h2⟩:=h
 have h1':=h1
 obtain⟨es,clock,hb,F,hs,hD⟩:=h1
 refine⟨D,⟨es,clock,hb,F,?_,hD⟩,h2⟩
 have hn:es.toList.Pairwise (fun x y=>x.key≠y.key):=((MapKept.stamped_iff es clock).1 F.stamped).2.2
 have:=nodup_len (es.toList.map (·.key)) (L.map enc) (by rw[List.pairwise_map];exact hn) (fun v hv=>by
  obtain⟨x,hx,rfl⟩:=List.mem_map.1 hv
  obtain⟨y,hy⟩:=F.reads x hx
  have hk:=rd_key hy
  obtain⟨a,ha⟩:=Y.sur hk
  refine List.mem_map.2 ⟨a,hL a ⟨_,ha▸hk⟩ ?_,ha.symm⟩
  rw[←h2 a _ (ha▸hk)]
  have hh:Maps.has D y.1=true:=by
   rw[hD]
   exact List.any_eq_true.2 ⟨rg prog k hE x,mem_sorted.2 (List.mem_map.2 ⟨x,hx,rfl⟩),by rw[rg_of hy];exact WideAt.sameKey_self (Y.keyed.key hk)⟩
  rw[getH_has h1'] at hh
  intro e
  rw[e] at hh
  cases hh)
 simpa using this
theorem Mp.put [DecidableEq α](h:Mp enc k w b g)(Y:Ky enc k)(L:List α)(hL:∀a,KyOk enc k a→g a≠none→a∈L)(hl:L.length<maxLen){t e:TypeId}(ht:prog.underlying t=some (.map k e)){a:α}(ha:KyOk enc k a)(v:Value) :
  ∃w',(Instr.mapUpdate t (.map (some b)) (enc a) v).run prog w=.ok () w'∧Mp enc k w' b (upd g a (some v))∧Chg (fun k=>k=b) w w'∧w'.heap.size=w.heap.size:=by
 obtain⟨D,h1,h2⟩:=h.small Y L hL
 obtain⟨kl,hk⟩:=ha
 obtain⟨w',hr,ho,ht'⟩:=h1.store Y.keyed ht hl hk (val:=v) (d:=.held v) (ps:=[]) rfl
 have hg:=ht'.grown
 refine⟨w',hr,⟨_,_,ho,fun a' kl' hk'=>?_⟩,⟨hg.os,hg.tape,hg.output,hg.size,fun i hi hn=>hg.block i hi (fun e=>hn (by cases e;rfl))⟩,?_⟩
 ·by_cases e:a'=a
  ·subst e
   rw[hk] at hk'
   cases hk'
   rw[getH_put_same h1 (Y.keyed.key hk),upd_same]
  ·rw[getH_put_other _ (fun e'=>e (Y.inj (Y.keyed.inj hk' (by rw[e'];exact hk)))),upd_other e,h2 a' kl' hk']
 ·obtain⟨es,c,es',c',_,rfl⟩:=ht'
  simp[ChangeMaps.setBlock]
theorem Mp.del [DecidableEq α](h:Mp enc k w b g)(Y:Ky enc k){t e:TypeId}(ht:prog.underlying t=some (.map k e)){a:α}(ha:KyOk enc k a)(ty:TypeId) :
  ∃w',(Builtin.delete_ #[t,k] ty #[.map (some b),enc a]).run prog w=.ok (.tuple #[]) w'∧Mp enc k w' b (upd g a none)∧Chg (fun k=>k=b) w w'∧w'.heap.size=w.heap.size:=by
 obtain⟨n,D,h1,h2⟩:=h
 obtain⟨kl,hk⟩:=ha
 obtain⟨w',hr,ho,ht'⟩:=h1.drop Y.keyed ht hk ty
 have hg:=ht'.grown
 refine⟨w',hr,⟨_,_,ho,fun a' kl' hk'=>?_⟩,⟨hg.os,hg.tape,hg.output,hg.size,fun i hi hn=>hg.block i hi (fun e=>hn (by cases e;rfl))⟩,?_⟩
 ·by_cases e:a'=a
  ·subst e
   rw[hk] at hk'
   cases hk'
   rw[getH_del_same,upd_same]
  ·rw[getH_del_other (fun e'=>e (Y.inj (Y.keyed.inj hk' (by rw[e'];exact hk)))),upd_other e,h2 a' kl' hk']
 ·obtain⟨es,c,es',c',_,rfl⟩:=ht'
  simp[ChangeMaps.setBlock]
theorem Mp.len(h:Mp enc k w b g)(Y:Ky enc k){t e:TypeId}(ht:prog.underlying t=some (.map k e))(ty:TypeId) :
  ∃s:Nat,(Builtin.len_ #[t] ty #[.map (some b)]).run prog w=.ok (I s) w∧(s=0↔∀a,KyOk enc k a→g a=none):=by
 obtain⟨n,D,h1,h2⟩:=h
 refine⟨Maps.size D,h1.len ht ty,?_⟩
 obtain⟨es,hes,hk⟩:=own_elems h1
 constructor
 ·intro hs a ⟨kl,ha⟩
  rw[←h2 a kl ha]
  subst hes
  have:es=[]:=List.eq_nil_of_length_eq_zero hs
  subst this
  rfl
 ·intro hn
  obtain⟨es1,clock,hb,F,hsz,hD⟩:=h1
  have h1':w.ownsMap prog k hE b n D:=⟨es1,clock,hb,F,hsz,hD⟩
  cases hs:es1.toList with
  | nil=>rw[hD,size_eq,length_sorted,hs];rfl
  | cons x r=>
   have hx:x∈es1.toList:=by rw[hs];simp
   obtain⟨y,hy⟩:=F.reads x hx
   have hky:=rd_key hy
   obtain⟨a,ha⟩:=Y.sur hky
   have e1:=h2 a _ (ha▸hky)
   rw[hn a ⟨_,ha▸hky⟩] at e1
   have hh:Maps.has D y.1=true:=by
    rw[hD]
    exact List.any_eq_true.2 ⟨rg prog k hE x,mem_sorted.2 (List.mem_map.2 ⟨x,hx,rfl⟩),by rw[rg_of hy];exact WideAt.sameKey_self (Y.keyed.key hky)⟩
   rw[getH_has h1',e1] at hh
   cases hh
def Rg(enc:α→Value)(k:TypeId)(w:World)(b r:Nat)(g:α→Option Value)(left:α→Prop)(cnt:Nat):Prop:=
 ∃n D lf,w.ranges prog k hE b r n D lf cnt∧(∀a kl,keyOf prog k (enc a)=some kl→getH D kl=g a)∧∀a kl,keyOf prog k (enc a)=some kl→(lf kl=true↔left a)
theorem Rg.mp{r cnt:Nat}{left:α→Prop}(h:Rg enc k w b r g left cnt):Mp enc k w b g:=by
 obtain⟨n,D,lf,h1,h2,_⟩:=h
 exact⟨n,D,h1.owns,h2⟩
theorem Rg.left_eq{r cnt:Nat}{left:α→Prop}(h:Rg enc k w b r g left cnt):w.rangeLeft b r=cnt:=by
 obtain⟨n,D,lf,h1,_⟩:=h
 exact h1.left_eq
theorem Rg.keep{r cnt:Nat}{left:α→Prop}(h:Rg enc k w b r g left cnt)(hb:w'.heap[b]?=w.heap[b]?)(hr:w'.heap[r]?=w.heap[r]?):Rg enc k w' b r g left cnt:=by
 obtain⟨n,D,lf,⟨es,clock,since,seen,c0,h1,h2,h3,h4,h5,h6⟩,h7⟩:=h
 exact⟨n,D,lf,⟨es,clock,since,seen,c0,hb.trans h1,h2,h3,h4,hr.trans h5,h6⟩,h7⟩
theorem Rg.lt{r cnt:Nat}{left:α→Prop}(h:Rg enc k w b r g left cnt):r<w.heap.size:=by
 obtain⟨n,D,lf,h1,_⟩:=h
 exact h1.lt
theorem Rg.ne{r cnt:Nat}{left:α→Prop}(h:Rg enc k w b r g left cnt):r≠b:=by
 obtain⟨n,D,lf,h1,_⟩:=h
 exact h1.ne
theorem Mp.range(h:Mp enc k w b g)(Y:Ky enc k){t e:TypeId}(ht:prog.underlying t=some (.map k e)) :
  ∃w' cnt,(Instr.range t (.map (some b))).run prog w=.ok (.pointer (some ⟨w.heap.size,0,none⟩)) w'∧Rg enc k w' b w.heap.size g (fun a=>g a≠none) cnt∧Go.Proofs.YtadfaiciolfgjaaGreatDoor.G w w'∧w'.heap.size=w.heap.size+1:=by
 obtain⟨n,D,h1,h2⟩:=h
 obtain⟨w',hr,hg,hb,hs⟩:=h1.range Y.keyed ht
 refine⟨w',_,hr,⟨n,D,_,hg,h2,fun a kl ha=>?_⟩,⟨hb.os,hb.tape,hb.output,hb.size,fun i hi=>hb.block i hi (by simp)⟩,hs⟩
 rw[getH_has h1,h2 a kl ha]
 cases hga:g a<;>simp[hga]
theorem Rg.next{r cnt:Nat}{left:α→Prop}(h:Rg enc k w b r g left cnt)(Y:Ky enc k)(ty:TypeId) :
  ((∀a,KyOk enc k a→¬left a)∧(Instr.next (.pointer (some ⟨r,0,none⟩)) false ty).run prog w=.ok (.tuple #[.bool false]) w)∨
  ∃a v w' cnt',KyOk enc k a∧left a∧g a=some v∧(Instr.next (.pointer (some ⟨r,0,none⟩)) false ty).run prog w=.ok (.tuple #[.bool true,enc a,v]) w'∧
   Rg enc k w' b r g (fun x=>left x∧x≠a) cnt'∧cnt'<cnt∧Chg (fun k=>k=r) w w'∧w'.heap.size=w.heap.size∧(Instr.entry (.pointer (some ⟨r,0,none⟩))).run prog w'=.ok (.tuple #[enc a,v]) w':=by
 obtain⟨n,D,lf,h1,h2,h3⟩:=h
 rcases h1.next Y.keyed ty with ⟨hc,hl,hrun⟩|⟨key,v,kl,y,w',cnt',hkey,hlk,hv,hat,hrun,hrg,hlt,hgr,hsz,hen⟩
 ·refine .inl ⟨?_,hrun⟩
  rintro a ⟨kl,ha⟩ hla
  have:=(h3 a kl ha).2 hla
  rw[hl kl] at this
  cases this
 ·obtain⟨a,rfl⟩:=Y.sur hkey
  simp only[hE,Option.some.injEq] at hv
  subst hv
  have hga:g a=some v:=by rw[←h2 a kl hkey];exact getH_of_at hat
  refine .inr ⟨a,v,w',cnt',⟨kl,hkey⟩,(h3 a kl hkey).1 hlk,hga,hrun,⟨n,D,_,hrg,h2,fun a' kl' ha'=>?_⟩,hlt,⟨hgr.os,hgr.tape,hgr.output,hgr.size,fun i hi hn=>hgr.block i hi (fun e=>hn (by cases e;rfl))⟩,hsz,hen⟩
  simp only[Bool.and_eq_true,Bool.not_eq_true']
  rw[h3 a' kl' ha']
  have:kl'.sameKey kl=false↔a'≠a:=by
   constructor
   ·intro hs e
    subst e
    rw[ha'] at hkey
    cases hkey
    rw[WideAt.sameKey_self (Y.keyed.key ha')] at hs
    cases hs
   ·intro e
    exact sameKey_ne (fun e'=>e (Y.inj (Y.keyed.inj (e'▸ha') hkey)))
  rw[this]
end
theorem kyI:Ky (fun n:Int=>I n) 3:=⟨int_keyed underlying3,fun h=>by cases h;rfl,fun {v kl} h=>by obtain⟨x,rfl,_⟩:=keyOf_int_inv underlying3 h;exact⟨x,rfl⟩⟩
def R64(n:Int):Prop:=-9223372036854775808≤n∧n≤9223372036854775807
theorem wf_R64{n:Int}:(Lit.int .i64 n).wf=true↔R64 n:=by simp[Lit.wf,IntKind.min,IntKind.max,IntKind.signed,IntKind.bits,R64]
theorem kyI_ok{n:Int}:KyOk (fun n:Int=>I n) 3 n↔R64 n:=by
 constructor
 ·rintro⟨kl,h⟩
  obtain⟨x,h1,_,h3⟩:=keyOf_int_inv underlying3 h
  cases h1
  exact wf_R64.1 h3
 ·intro h
  exact⟨_,keyOf_int_mk underlying3 (wf_R64.2 h)⟩
structure Rs where
 lv:Int
 lb:ByteArray
 id:Int
deriving DecidableEq
def Rs.cells(r:Rs):List Value:=[I r.lv,.string r.lb,I r.id]
def Rs.v(r:Rs):Value:=.agg #[I r.lv,.string r.lb,I r.id]
def Rs.ok(r:Rs):Prop:=R64 r.lv∧r.lb.size≤maxLen∧R64 r.id
theorem Rs.v_inj{a b:Rs}(h:a.v=b.v):a=b:=by
 cases a;cases b;simp[Rs.v] at h;obtain⟨rfl,rfl,rfl⟩:=h;rfl
end
section
open Go.RowKit Go.Maps
theorem size_types:prog.types.size=203:=by kernel_rfl
theorem laidOut:laidOutB prog=true:=by kernel_rfl
theorem keyType_res:prog.keyType 33=true:=by kernel_rfl
theorem cellsOf_res:prog.cellsOf 33=3:=by kernel_rfl
theorem cellsOf_int:prog.cellsOf 3=1:=by kernel_rfl
theorem cellsOf_i64:prog.cellsOf 2=1:=by kernel_rfl
theorem cellsOf_str:prog.cellsOf 9=1:=by kernel_rfl
theorem row_res:(33:TypeId)<prog.types.size:=of_decide_eq_true (by kernel_rfl)
theorem keyTypeAt_res:prog.keyTypeAt 2 33=true:=by kernel_rfl
theorem law_res:WideMaps.KeyLaw prog 33:=deep_law_laid laidOut (m:=2) (by omega) row_res keyTypeAt_res (by rw[underlying33])
theorem lits_int(d:Nat)(v:Value):prog.keyLits (d+1) 3 [v]=match v with|.int .i64 n=>if (Lit.int .i64 n).wf=true then some [.int .i64 n] else none|_=>none:=by
 cases v<;>simp[Program.keyLits,underlying3]
 rename_i q n;cases q<;>simp
theorem lits_i64(d:Nat)(v:Value):prog.keyLits (d+1) 2 [v]=match v with|.int .i64 n=>if (Lit.int .i64 n).wf=true then some [.int .i64 n] else none|_=>none:=by
 cases v<;>simp[Program.keyLits,underlying2]
 rename_i q n;cases q<;>simp
theorem lits_str(d:Nat)(v:Value):prog.keyLits (d+1) 9 [v]=match v with|.string s=>if s.size≤maxLen then some [.string s.data.toList] else none|_=>none:=by
 cases v<;>simp[Program.keyLits,underlying9]
theorem lits_res(d:Nat)(a b c:Value):prog.keyLits (d+2) 33 [a,b,c]=((prog.keyLits (d+1) 3 [a]).bind fun x=>(prog.keyLits (d+1) 9 [b]).bind fun y=>(prog.keyLits (d+1) 2 [c]).map fun z=>x++(y++z)):=by
 conv=>lhs;unfold Program.keyLits
 simp only[underlying33,cellsOf_res,List.length_cons,List.length_nil]
 simp[List.mapM_cons,cellsOf_int,cellsOf_i64,cellsOf_str]
 cases prog.keyLits (d+1) 3 [a]<;>cases prog.keyLits (d+1) 9 [b]<;>cases prog.keyLits (d+1) 2 [c]<;>simp
theorem keyOf_res(v:Value):keyOf prog 33 v=if v.formed prog 33=true then(prog.keyLits 204 33 v.cells.toList).map fun ls=>.string (keyBytes ls)else none:=by
 unfold keyOf
 simp only[underlying33,keyType_res,Bool.true_and,size_types]
theorem key_res_mk{r:Rs}(h:r.ok):∃kl,keyOf prog 33 r.v=some kl:=by
 rw[keyOf_res,if_pos (by simp[Rs.v,Value.formed,underlying33,cellsOf_res])]
 obtain⟨h1,h2,h3⟩:=h
 simp only[Rs.v,Value.cells,lits_res,lits_int,lits_str,lits_i64,wf_R64.2 h1,wf_R64.2 h3,h2,if_true,Option.bind_some,Option.map_some]
 exact⟨_,rfl⟩
theorem key_res_inv{v:Value}{kl:Lit}(h:keyOf prog 33 v=some kl):∃r:Rs,v=r.v∧r.ok:=by
 rw[keyOf_res] at h
 split at h
 ·rename_i hf
  cases v with
  | agg cs=>
   simp only[Value.formed,underlying33,cellsOf_res,beq_iff_eq] at hf
   obtain⟨l⟩:=cs
   obtain⟨a,b,c,rfl⟩:∃a b c,l=[a,b,c]:=by
    rcases l with _|⟨a,_|⟨b,_|⟨c,_|⟨d,l⟩⟩⟩⟩<;>simp at hf
    exact⟨a,b,c,rfl⟩
   ·simp only[Value.cells,lits_res,lits_int,lits_str,lits_i64] at h
    obtain⟨ls,h1,_⟩:=Option.map_eq_some_iff.1 h
    obtain⟨x,hx,h2⟩:=Option.bind_eq_some_iff.1 h1
    obtain⟨y,hy,h3⟩:=Option.bind_eq_some_iff.1 h2
    obtain⟨z,hz,_⟩:=Option.map_eq_some_iff.1 h3
    split at hx
    ·split at hx
     ·split at hy
      ·split at hy
       ·split at hz
        ·split at hz
         ·rename_i _ n w1 _ s w2 _ m w3
          exact⟨⟨n,s,m⟩,rfl,wf_R64.1 w1,w2,wf_R64.1 w3⟩
         ·cases hz
        ·cases hz
       ·cases hy
      ·cases hy
     ·cases hx
    ·cases hx
  | _=>simp[Value.formed,underlying33] at hf
 ·cases h
theorem kyR:Ky Rs.v 33:=⟨Keyed.of_law law_res,Rs.v_inj,fun h=>by obtain⟨r,rfl,_⟩:=key_res_inv h;exact⟨r,rfl⟩⟩
theorem kyR_ok{r:Rs}:KyOk Rs.v 33 r↔r.ok:=⟨fun ⟨_,h⟩=>by obtain⟨r',e,ho⟩:=key_res_inv h;rw[Rs.v_inj e];exact ho,key_res_mk⟩
end
section
open Go.RowKit Go.Maps
structure Pt where
 blk:Nat
 hb:Nat
 wb:Nat
 stamp:Int
 hf:Rs→Int
 at_:Rs
 goal:Int
 wd:Int→Bool
structure Pl where
 blk:Nat
 hb:Nat
 q:Value
 hf:Int→Int
 qs:List (Int×Int)
inductive Tg
 | tb|lv|ps|pt (x:Int)|ph (x:Int)|pw (x:Int)|pl (r:Rs)|lh (r:Rs)|qu (r:Rs)
structure Gs where
 lb:Nat
 pb:Nat
 lv:Int→Option Pt
 pl:Rs→Option Pl
 own:Nat→Option Tg
abbrev ptr(b:Nat):Value:=.pointer (some ⟨b,0,none⟩)
def Pt.cells(p:Pt):List Value:=[I p.stamp,.map (some p.hb),I p.at_.lv,.string p.at_.lb,I p.at_.id,I p.goal,.map (some p.wb)]
def nz(n:Int):Option Value:=if n=0 then none else some (I n)
def wdv(b:Bool):Option Value:=if b then some (.agg #[])else none
def qc(qs:List (Int×Int)):List Value:=qs.flatMap fun q=>[I q.1,I q.2]
def QSl(w:World)(v:Value)(qs:List (Int×Int)):Prop:=
 (v=.slice none 0 0∧qs=[])∨∃g cap rest,v=.slice (some ⟨g,0,none⟩) qs.length cap∧Blk w g 68 (qc qs++rest)∧qs.length*2+rest.length=cap*2∧cap≤maxLen
structure PtOk(w:World)(own:Nat→Option Tg)(x:Int)(p:Pt):Prop where
 blk:Blk w p.blk 63 p.cells
 hm:Mp Rs.v 33 w p.hb (fun r=>nz (p.hf r))
 wm:Mp (fun n:Int=>I n) 3 w p.wb (fun y=>wdv (p.wd y))
 t1:own p.blk=some (.pt x)
 t2:own p.hb=some (.ph x)
 t3:own p.wb=some (.pw x)
structure PlOk(w:World)(own:Nat→Option Tg)(r:Rs)(p:Pl):Prop where
 blk:Blk w p.blk 109 [.map (some p.hb),p.q]
 hm:Mp (fun n:Int=>I n) 3 w p.hb (fun x=>nz (p.hf x))
 q:QSl w p.q p.qs
 t1:own p.blk=some (.pl r)
 t2:own p.hb=some (.lh r)
 t3:∀b,p.q.ownBlock=some b→own b=some (.qu r)
structure TT(w:World)(t:Nat)(s:Gs):Prop where
 tb:Blk w t 81 [.map (some s.lb),.map (some s.pb)]
 lm:Mp (fun n:Int=>I n) 3 w s.lb (fun x=>(s.lv x).map fun p=>ptr p.blk)
 pm:Mp Rs.v 33 w s.pb (fun r=>(s.pl r).map fun p=>ptr p.blk)
 pt:∀x p,s.lv x=some p→PtOk w s.own x p
 pl:∀r p,s.pl r=some p→PlOk w s.own r p
 o1:s.own t=some .tb
 o2:s.own s.lb=some .lv
 o3:s.own s.pb=some .ps
 lt:∀b tg,s.own b=some tg→b<w.heap.size
section
variable {w w':World} {own own':Nat→Option Tg}
theorem QSl.keep{v:Value}{qs:List (Int×Int)}(h:QSl w v qs)(hb:∀b,v.ownBlock=some b→w'.heap[b]?=w.heap[b]?):QSl w' v qs:=by
 rcases h with h|⟨g,cap,rest,rfl,h2,h3⟩
 ·exact .inl h
 ·exact .inr ⟨g,cap,rest,rfl,h2.keep (hb g rfl),h3⟩
theorem PtOk.keep{x:Int}{p:Pt}(h:PtOk w own x p)(hb:∀b,own b=some (.pt x)∨own b=some (.ph x)∨own b=some (.pw x)→w'.heap[b]?=w.heap[b]?):PtOk w' own x p:=
 ⟨h.blk.keep (hb _ (.inl h.t1)),h.hm.keep (hb _ (.inr (.inl h.t2))),h.wm.keep (hb _ (.inr (.inr h.t3))),h.t1,h.t2,h.t3⟩
theorem PlOk.keep{r:Rs}{p:Pl}(h:PlOk w own r p)(hb:∀b,own b=some (.pl r)∨own b=some (.lh r)∨own b=some (.qu r)→w'.heap[b]?=w.heap[b]?):PlOk w' own r p:=
 ⟨h.blk.keep (hb _ (.inl h.t1)),h.hm.keep (hb _ (.inr (.inl h.t2))),h.q.keep (fun b e=>hb _ (.inr (.inr (h.t3 b e)))),h.t1,h.t2,h.t3⟩
theorem PtOk.more{x:Int}{p:Pt}(h:PtOk w own x p)(ho:∀b tg,own b=some tg→own' b=some tg):PtOk w own' x p:=⟨h.blk,h.hm,h.wm,ho _ _ h.t1,ho _ _ h.t2,ho _ _ h.t3⟩
theorem PlOk.more{r:Rs}{p:Pl}(h:PlOk w own r p)(ho:∀b tg,own b=some tg→own' b=some tg):PlOk w own' r p:=⟨h.blk,h.hm,h.q,ho _ _ h.t1,ho _ _ h.t2,fun b e=>ho _ _ (h.t3 b e)⟩
theorem TT.keep{t:Nat}{s:Gs}(h:TT w t s)(hb:∀b tg,s.own b=some tg→w'.heap[b]?=w.heap[b]?)(hs:w.heap.size≤w'.heap.size):TT w' t s:=
 ⟨h.tb.keep (hb _ _ h.o1),h.lm.keep (hb _ _ h.o2),h.pm.keep (hb _ _ h.o3),fun x p e=>(h.pt x p e).keep (fun b o=>by rcases o with o|o|o<;>exact hb _ _ o),
  fun x p e=>(h.pl x p e).keep (fun b o=>by rcases o with o|o|o<;>exact hb _ _ o),h.o1,h.o2,h.o3,fun b tg o=>Nat.lt_of_lt_of_le (h.lt b tg o) hs⟩
theorem TT.G{t:Nat}{s:Gs}(h:TT w t s)(g:Go.Proofs.YtadfaiciolfgjaaGreatDoor.G w w'):TT w' t s:=h.keep (fun b tg o=>g.block b (h.lt b tg o)) g.size
theorem TT.chg{t:Nat}{s:Gs}{F:Nat→Prop}(h:TT w t s)(g:Chg F w w')(hF:∀b,F b→s.own b=none):TT w' t s:=
 h.keep (fun b tg o=>g.block b (h.lt b tg o) (fun f=>by rw[hF b f] at o;cases o)) g.size
end
structure Ext(w w':World)(s s':Gs):Prop where
 chg:Chg (fun b=>s.own b≠none) w w'
 old:∀b tg,s.own b=some tg→s'.own b=some tg
 new:∀b tg,s'.own b=some tg→s.own b=some tg∨w.heap.size≤b
theorem Ext.refl(w:World)(s:Gs):Ext w w s s:=⟨Chg.refl _ _,fun _ _ h=>h,fun _ _ h=>.inl h⟩
theorem Ext.trans{a b c:World}{s s1 s2:Gs}(h:Ext a b s s1)(k:Ext b c s1 s2):Ext a c s s2:=
 ⟨h.chg.more k.chg (fun i hi f=>by
   cases e:s1.own i with
   | none=>exact absurd e f
   | some tg=>
          rcases h.new i tg e with o|o
          ·rw[o];simp
          ·omega),fun b tg o=>k.old b tg (h.old b tg o),fun b tg o=>by
   rcases k.new b tg o with o|o
   ·exact h.new b tg o
   ·exact .inr (Nat.le_trans h.chg.size o)⟩
theorem Ext.G{a b c:World}{s s1:Gs}(h:Ext a b s s1)(k:Go.Proofs.YtadfaiciolfgjaaGreatDoor.G b c):Ext a c s s1:=h.trans ⟨k.chg,fun _ _ h=>h,fun _ _ h=>.inl h⟩
theorem G.ext{a b:World}(s:Gs)(k:Go.Proofs.YtadfaiciolfgjaaGreatDoor.G a b):Ext a b s s:=(Ext.refl a s).G k
end
section
open Go.RowKit Go.Maps
theorem G.andc{a b c:World}{F:Nat→Prop}(h:G a b)(k:Chg F b c)(hF:∀i,F i→a.heap.size≤i):G a c:=
 ((h.chg (F:=fun _=>False)).more k (fun i hi f=>by have:=hF i f;omega)).G (fun _ f=>f.elim)
def own3(own:Nat→Option Tg)(a b c:Nat)(ta te tc:Tg):Nat→Option Tg:=fun n=>if n=a then some ta else if n=b then some te else if n=c then some tc else own n
theorem own3_old{own:Nat→Option Tg}{a b c n:Nat}{ta te tc:Tg}(h1:n≠a)(h2:n≠b)(h3:n≠c):own3 own a b c ta te tc n=own n:=by simp[own3,h1,h2,h3]
theorem own3_inv{own:Nat→Option Tg}{a b c n:Nat}{ta te tc tg:Tg}(h:own3 own a b c ta te tc n=some tg):n=a∨n=b∨n=c∨own n=some tg:=by
 unfold own3 at h
 split at h
 ·exact .inl (by assumption)
 ·split at h
  ·exact .inr (.inl (by assumption))
  ·split at h
   ·exact .inr (.inr (.inl (by assumption)))
   ·exact .inr (.inr (.inr h))
theorem TT.ne{w:World}{t:Nat}{s:Gs}(_h:TT w t s){a b:Nat}{ta te:Tg}(ha:s.own a=some ta)(hb:s.own b=some te)(hn:ta≠te):a≠b:=fun e=>by
 subst e;rw[ha] at hb;cases hb;exact hn rfl
theorem new_any(w:World):Calls prog 15 #[] w fun e w'=>∃t s,e=.returned (ptr t)∧TT w' t s∧(∀x,s.lv x=none)∧(∀r,s.pl r=none)∧G w w'∧w.heap.size≤t∧(∀b tg,s.own b=some tg→w.heap.size≤b):=by
 have hmm:=@run_makeMap prog
 go_enter func15,ntmps15
 go_wp2
 go_ret
 refine⟨w.heap.size+2,⟨w.heap.size,w.heap.size+1,fun _=>none,fun _=>none,fun b=>if b=w.heap.size+2 then some .tb else if b=w.heap.size then some .lv else if b=w.heap.size+1 then some .ps else none⟩,?_,?_,fun _=>rfl,fun _=>rfl,?_,by omega,?_⟩
 ·simp[ptr]
 ·have g2:=((G.refl (w.alloc (.map #[] 0))).alloc (.map #[] 0)).alloc (.cells #[.map (some w.heap.size),.map (some (w.heap.size+1))] 81)
  have m1:=(Mp.made w (fun n:Int=>I n) 3).G g2
  have m2:=(Mp.made (w.alloc (.map #[] 0)) Rs.v 33).G ((G.refl _).alloc (.cells #[.map (some w.heap.size),.map (some (w.heap.size+1))] 81))
  have b3:=Blk.new ((w.alloc (.map #[] 0)).alloc (.map #[] 0)) [.map (some w.heap.size),.map (some (w.heap.size+1))] 81
  simp only[World.size_alloc] at m2 b3
  refine⟨b3,m1,m2,fun x p e=>(by cases e),fun x p e=>(by cases e),by simp,by simp,by simp,fun b tg e=>?_⟩
  simp only[World.size_alloc]
  simp only at e
  split at e
  ·omega
  ·split at e
   ·omega
   ·split at e
    ·omega
    ·cases e
 ·exact(((G.refl w).alloc _).alloc _).alloc _
 ·intro b tg e
  simp only at e
  split at e
  ·omega
  ·split at e
   ·omega
   ·split at e
    ·omega
    ·cases e
def ptv(p:Option Pt):Value:=match p with|some p=>ptr p.blk|none=>.pointer none
theorem partyOf_any(t:Nat)(s:Gs)(x:Int)(w:World)(h:TT w t s)(hx:R64 x):Calls prog 17 #[ptr t,I x] w fun e w'=>e=.returned (.tuple #[ptv (s.lv x),I (if (s.lv x).isSome then 0 else 80)])∧w'=w:=by
 have hl:=h.lm.look kyI underlying78 (zeroValue55 w) (kyI_ok.2 hx)
 have hc:=h.tb.cell
 clear h
 cases hp:s.lv x with
 | none=>
  rw[hp] at hl
  simp only[Option.map_none,Option.getD_none] at hl
  clear hp
  go_enter func17,ntmps17
  go_wp2
  go_ret2
  exact⟨rfl,rfl⟩
 | some p=>
  rw[hp] at hl
  simp only[Option.map_some,Option.getD_some,ptr] at hl
  clear hp
  go_enter func17,ntmps17
  go_wp2
  go_ret2
  exact⟨rfl,rfl⟩
theorem wpList_put{α:Type} [DecidableEq α]{enc:α→Value}{k:TypeId}{b:Nat}{g:α→Option Value}(w:World){ops:Array Oper}{rest:List Oper}{o:Oper}{a:Act}{Q:Exit→Act→World→Prop}
  (hg:o.guard=none) (m x v:Operand) (t:TypeId) (hop:o.op=Op.mapUpdate t m x v) (h:Mp enc k w b g) (hm:a.eval m=.map (some b)) (Y:Ky enc k) (L:List α) (hL:∀a,KyOk enc k a→g a≠none→a∈L) (hl:L.length<maxLen)
  {e:TypeId} (ht:prog.underlying t=some (.map k e)) (key:α) (hx:a.eval x=enc key) (ha:KyOk enc k key) (val:Value) (hv:a.eval v=val)
  (hK:∀w',Mp enc k w' b (upd g key (some val))→Chg (fun k=>k=b) w w'→w'.heap.size=w.heap.size→wpList prog ops Q rest (a.put o.dst undef) w'):wpList prog ops Q (o::rest) a w:=by
 refine wpList_plain hg fun K' hK'=>?_
 obtain⟨w',hrun,r1,r2,r3⟩:=h.put Y L hL hl ht ha val
 unfold Oper.wp
 simp[execOp,hop,hm,hx,hv,hrun,Result.andThen]
 exact hK' _ _ (hK w' r1 r2 r3)
def taken(s:Gs)(x st:Int):Prop:=∃y p,s.lv y=some p∧(y=x∨p.stamp=st)
def Pt.isNew(p:Pt)(st:Int):Prop:=p.stamp=st∧(∀r,p.hf r=0)∧p.at_=⟨0,ByteArray.empty,0⟩∧p.goal=0∧∀y,p.wd y=false
theorem begin_any(t:Nat)(s:Gs)(x st:Int)(w:World)(h:TT w t s)(hx:R64 x)(x1:1≤x)(s1:1≤st)(hv:∀y p,s.lv y=some p→R64 y)(L:List Int)(hL:∀y p,s.lv y=some p→y∈L)(hl:L.length<maxLen):Calls prog 71 #[ptr t,I x,I st] w fun e w'=>
  (taken s x st∧e=.returned (I 80)∧TT w' t s∧G w w')∨(¬taken s x st∧e=.returned (I 0)∧∃s' p,TT w' t s'∧p.isNew st∧s'.lv=upd s.lv x (some p)∧s'.pl=s.pl∧Ext w w' s s'):=by
 obtain⟨w0,cnt0,hrun0,hrg0,hg0,hs0⟩:=h.lm.range kyI underlying78
 have hc:=h.tb.cell
 have HT:=hide h
 have HV:=hide hv
 have HL:=hide hL
 have HLL:=hide hl
 have HX:=hide hx
 clear h hv hL hl hx
 have hx1:¬(x<1):=by omega
 have hs1:¬(st<1):=by omega
 have HRG:=hide hrg0
 have HG0:=hide hg0
 clear hrg0 hg0 hs0
 have hmm:=@run_makeMap prog
 go_enter func71,ntmps71
 go_wp2
 go_loopw [7] (fun _ wr=>∃(left:Int→Prop) (cnt:Nat),Rg (fun n:Int=>I n) 3 wr s.lb w.heap.size (fun x=>(s.lv x).map fun p=>ptr p.blk) left cnt∧G w wr∧∀y p,s.lv y=some p→left y∨(y≠x∧p.stamp≠st)) (fun _ wr=>wr.rangeLeft s.lb w.heap.size)
 case atStart=>exact⟨_,_,HRG.out,HG0.out,fun y p hy=>.inl (by simp[hy])⟩
 case round=>
  obtain⟨left,cnt,hrg,hgw,hdone⟩:=hrel
  have HR:=hide hrg
  have HGW:=hide hgw
  have HD:=hide hdone
  rcases hrg.next kyI 0 with ⟨hno,hnx⟩|⟨y,v,w1,cnt1,hky,hly,hgy,hnx,hrg1,hlt,hch,hsz,hen⟩
  ·have hfree:¬taken s x st:=by
    rintro⟨y,p,hy,ho⟩
    rcases HD.out y p hy with h|h
    ·exact hno y (kyI_ok.2 (HV.out y p hy)) h
    ·exact ho.elim h.1 h.2
   have HF:=hide hfree
   have hc1:=(HT.out.tb.G hgw).cell
   clear hrg hgw hdone hno hfree hc
   go_wp2_with (first|(at_mapUpdate;refine wpList_put _ rfl _ _ _ 78 rfl (HR.out.mp.G ((((G.refl wr).alloc _).alloc _).alloc _)) rfl kyI L (fun y _ hy=>by cases hp:s.lv y with|none=>simp[hp] at hy|some p=>exact HL.out y p hp) HLL.out underlying78 x rfl (kyI_ok.2 HX.out) _ rfl ?_;intro w2 hm2 hch2 hsz2)|go_in)
   go_ret
   refine .inr ⟨HF.out,rfl,?_⟩
   have hsw:=HGW.out.size
   have h:=HT.out
   obtain⟨n,hn⟩:∃n,n=wr.heap.size:=⟨_,rfl⟩
   have g3:G wr (((wr.alloc (.map #[] 0)).alloc (.map #[] 0)).alloc (.cells #[I st,.map (some wr.heap.size),I 0,.string ByteArray.empty,I 0,I 0,.map (some (wr.heap.size+1))] 63)):=(((G.refl wr).alloc _).alloc _).alloc _
   have m1:=(Mp.made wr Rs.v 33).G (((G.refl _).alloc (.map #[] 0)).alloc (.cells #[I st,.map (some wr.heap.size),I 0,.string ByteArray.empty,I 0,I 0,.map (some (wr.heap.size+1))] 63))
   have m2:=(Mp.made (wr.alloc (.map #[] 0)) (fun n:Int=>I n) 3).G ((G.refl _).alloc (.cells #[I st,.map (some wr.heap.size),I 0,.string ByteArray.empty,I 0,I 0,.map (some (wr.heap.size+1))] 63))
   have b3:=Blk.new ((wr.alloc (.map #[] 0)).alloc (.map #[] 0)) [I st,.map (some wr.heap.size),I 0,.string ByteArray.empty,I 0,I 0,.map (some (wr.heap.size+1))] 63
   simp only[World.size_alloc] at m2 b3
   have hlb:=h.lt _ _ h.o2
   have m1':=m1.chg hch2 (by omega)
   have m2':=m2.chg hch2 (by omega)
   have b3':=b3.chg hch2 (by omega)
   have hall:Chg (fun b=>b=s.lb) w w2:=((HGW.out.trans g3).chg).trans hch2
   have hk:∀b tg,s.own b=some tg→b≠s.lb→w2.heap[b]?=w.heap[b]?:=fun b tg o hne=>hall.block b (h.lt b tg o) hne
   have hs2:w2.heap.size=wr.heap.size+3:=by rw[hsz2];simp
   have old:∀b tg,s.own b=some tg→own3 s.own (wr.heap.size+2) wr.heap.size (wr.heap.size+1) (.pt x) (.ph x) (.pw x) b=some tg:=fun b tg o=>by
    have:=h.lt b tg o
    rw[own3_old (by omega) (by omega) (by omega)]
    exact o
   refine⟨⟨s.lb,s.pb,upd s.lv x (some ⟨wr.heap.size+2,wr.heap.size,wr.heap.size+1,st,fun _=>0,⟨0,ByteArray.empty,0⟩,0,fun _=>false⟩),s.pl,own3 s.own (wr.heap.size+2) wr.heap.size (wr.heap.size+1) (.pt x) (.ph x) (.pw x)⟩,_,?_,⟨rfl,fun _=>rfl,rfl,rfl,fun _=>rfl⟩,rfl,rfl,?_⟩
   ·refine⟨h.tb.keep (hk _ _ h.o1 (h.ne h.o1 h.o2 (by simp))),hm2.congr (fun y=>?_),h.pm.keep (hk _ _ h.o3 (h.ne h.o3 h.o2 (by simp))),fun y q hy=>?_,fun r q hr=>?_,old _ _ h.o1,old _ _ h.o2,old _ _ h.o3,fun b tg o=>?_⟩
    ·simp only[upd]
     split<;>rfl
    ·by_cases ey:y=x
     ·subst ey
      simp only[upd_same,Option.some.injEq] at hy
      subst hy
      exact⟨b3',m1'.congr (fun _=>rfl),m2'.congr (fun _=>rfl),by simp[own3],by simp[own3],by simp[own3]⟩
     ·replace hy:upd s.lv x _ y=some q:=hy
      rw[upd_other ey] at hy
      exact((h.pt y q hy).keep (fun b o=>by rcases o with o|o|o<;>exact hk _ _ o (h.ne o h.o2 (by simp)))).more old
    ·exact((h.pl r q hr).keep (fun b o=>by rcases o with o|o|o<;>exact hk _ _ o (h.ne o h.o2 (by simp)))).more old
    ·rcases own3_inv o with rfl|rfl|rfl|o<;>try omega
     have:=h.lt b tg o
     omega
   ·refine⟨hall.mono (fun b e=>by rw[e,h.o2];simp),old,fun b tg o=>?_⟩
    rcases own3_inv o with rfl|rfl|rfl|o
    iterate 3
     ·right;omega
    ·exact .inl o
  ·obtain⟨p,hp,rfl⟩:∃p,s.lv y=some p∧v=ptr p.blk:=by
    cases hp:s.lv y with
    | none=>simp[hp] at hgy
    | some p=>simp[hp] at hgy;exact⟨p,rfl,hgy.symm⟩
   have hpc:=(((HT.out.pt y p hp).blk.G hgw).chg hch (by
    have:=(HT.out.pt y p hp).blk.lt
    intro e
    omega)).cell
   have HP:=hide hp
   clear hrg hgw hdone hc hgy hp
   have HK:=hide hky
   have HLY:=hide hly
   clear hky hly
   simp only[Pt.cells] at hpc
   have HCH:=hide hch
   have HR1:=hide hrg1
   clear hch hrg1
   by_cases e1:y=x
   ·have HE:=hide e1
    have e1':(y==x)=true:=by simp[e1]
    clear e1
    go_wp2
    go_ret
    have g:=HGW.out.andc HCH.out (fun i e=>by omega)
    exact .inl ⟨⟨y,p,HP.out,.inl HE.out⟩,rfl,HT.out.G g,g⟩
   ·by_cases e2:p.stamp=st
    ·have HE:=hide e2
     have e2':(p.stamp==st)=true:=by simp[e2]
     clear e2
     go_wp2
     go_ret
     have g:=HGW.out.andc HCH.out (fun i e=>by omega)
     exact .inl ⟨⟨y,p,HP.out,.inr HE.out⟩,rfl,HT.out.G g,g⟩
    ·have e1f:(y==x)=false:=by simp[e1]
     have e2f:(p.stamp==st)=false:=by simp[e2]
     go_wp2
     go_roundw
     case rel=>
      refine⟨_,cnt1,HR1.out,HGW.out.andc HCH.out (fun i e=>by omega),fun z q hq=>?_⟩
      ·by_cases ez:z=y
       ·subst ez
        rw[HP.out] at hq
        cases hq
        exact .inr ⟨e1,e2⟩
       ·rcases HD.out z q hq with h|h
        ·exact .inl ⟨h,ez⟩
        ·exact .inr h
     case measure=>rw[HR1.out.left_eq,HR.out.left_eq];exact hlt
end
end Go.Proofs.YtadfaiciolfgjaaGreatDoor
