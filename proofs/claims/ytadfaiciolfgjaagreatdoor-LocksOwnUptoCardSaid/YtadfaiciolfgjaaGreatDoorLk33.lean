import Derived.Shelf.Spec.SlicesInsert
import Derived.Lib.AppendZerosOnto
import Derived.Laws.NewBlocks
import Derived.Test.YtadfaiciolfgjaaGreatDoorLk18
namespace Go.Proofs.YtadfaiciolfgjaaGreatDoor
open Go.Proofs.Tryz
set_option maxHeartbeats 400000
set_option maxRecDepth 100000
section
open Go.RowKit
theorem copy_2(w:World)(ty:TypeId)(b o dLen dCap:Nat)(a:Addr)(sLen sCap n:Nat)(cs:List Value)(hn:n=Nat.min sLen dLen)(hl:cs.length=n*2)
  (hsrc:∀j v,cs[j]?=some v→w.cell? (a.add j)=some v) (hc:∀j,j<cs.length→(w.cell? ⟨b,o+j,none⟩).isSome=true) (hf:∀j,j<cs.length→w.frozen? ⟨b,o+j,none⟩=false) (h1:∀v∈cs,v.oneCell'=true) :
  (Builtin.copy_ #[91,91] ty #[.slice (some ⟨b,o,none⟩) dLen dCap,.slice (some a) sLen sCap]).run prog w=.ok (goInt n) (w.setCells b o cs):=by
 have hld:=run_loadCells_list (P:=prog) w a cs hsrc
 have hst:=run_storeCells_cells (P:=prog) b o cs 0 w (by simpa using hc) (by simpa using hf) h1
 rw[hl] at hld
 obtain⟨i,hi,hs⟩:∃i,prog.info? 68=some i∧i.size=2:=by
  have:=(show(prog.info? 68).map (·.size)=some 2 by kernel_rfl)
  cases h:prog.info? 68 with
  | none=>rw[h] at this;cases this
  | some i=>rw[h] at this;exact⟨i,rfl,by simpa using this⟩
 simp[Builtin.copy_,run_underlying underlying91,Builtin.lenOf,Builtin.firstCells,sizeOf,typeInfo,hi,hs,←hn,hld,hst]
theorem qc_one{qs:List (Int×Int)}{v:Value}(h:v∈qc qs):v.oneCell'=true:=by
 obtain⟨q,_,hq⟩:=List.mem_flatMap.1 h
 simp at hq
 rcases hq with rfl|rfl<;>rfl
theorem chg_sets(g:Nat):∀(vs:List Value) (o:Nat) (w:World),Chg (fun k=>k=g) w (w.setCells g o vs)
 | [],_,_=>Chg.refl _ _
 | v::vs,o,w=>(chgk w g o v).trans (chg_sets g vs (o+1) _)
def putQ(qs:List (Int×Int))(i:Nat)(x m:Int):List (Int×Int):=qs.take i++(x,m)::qs.drop i
theorem putQ_len{qs:List (Int×Int)}{i:Nat}{x m:Int}(h:i≤qs.length):(putQ qs i x m).length=qs.length+1:=by
 unfold putQ
 rw[List.length_append,List.length_cons,List.length_take,List.length_drop]
 omega
theorem putQ_end(qs:List (Int×Int))(x m:Int):putQ qs qs.length x m=qs++[(x,m)]:=by simp[putQ]
theorem qc_split(qs:List (Int×Int))(i:Nat):qc qs=qc (qs.take i)++qc (qs.drop i):=by rw[←qc_app,List.take_append_drop]
theorem qc_put(qs:List (Int×Int))(i:Nat)(x m:Int):qc (putQ qs i x m)=qc (qs.take i)++([I x,I m]++qc (qs.drop i)):=by
 unfold putQ
 rw[qc_app]
 rfl
theorem shift_cells(A D rest:List Value)(k:Nat)(hA:A.length=k)(hr:2≤rest.length)(x m:Value) :
  let xs:=A++D++rest
  let ys:=xs.take (k+2)++D++xs.drop (k+2+D.length)
  ys.take k++[x,m]++ys.drop (k+2)=A++([x,m]++D)++rest.drop 2:=by
 subst hA
 intro xs ys
 have e1:xs.take (A.length+2)=A++(D++rest).take 2:=by
  show(A++D++rest).take (A.length+2)=_
  rw[List.append_assoc,List.take_append,List.take_of_length_le (by omega)]
  simp
 have e2:xs.drop (A.length+2+D.length)=rest.drop 2:=by
  show(A++D++rest).drop (A.length+2+D.length)=_
  rw[List.append_assoc,List.drop_append,List.drop_append,List.drop_of_length_le (by omega),List.drop_of_length_le (by omega)]
  simp
  congr 1
  omega
 have e3:((D++rest).take 2).length=2:=by rw[List.length_take,List.length_append];omega
 have e4:ys=A++((D++rest).take 2++(D++rest.drop 2)):=by
  show xs.take (A.length+2)++D++xs.drop (A.length+2+D.length)=_
  rw[e1,e2];simp
 rw[e4,List.take_append_of_le_length (Nat.le_refl _),List.take_length,List.drop_append,List.drop_of_length_le (by omega),List.drop_append,List.drop_of_length_le (by omega)]
 simp[e3]
theorem insert_shift(qs:List (Int×Int))(g cap i:Nat)(rest:List Value)(x m:Int)(b:Nat)(w:World)(hg:Blk w g 68 (qc qs++rest))(hcap:qs.length*2+rest.length=cap*2)(hmax:cap≤maxLen)(hb:Blk w b 68 [I x,I m])(hi:i<qs.length)(hroom:qs.length<cap)(hne:b≠g) :
  Calls prog 59 #[.slice (some ⟨g,0,none⟩) qs.length cap,I (i:Int),.slice (some ⟨b,0,none⟩) 1 1] w fun e w'=>e=.returned (.slice (some ⟨g,0,none⟩) (qs.length+1) cap)∧Blk w' g 68 (qc (putQ qs i x m)++rest.drop 2)∧Chg (fun k=>k=g) w w':=by
 have hm63:maxLen≤9223372036854775807:=of_decide_eq_true (by kernel_rfl)
 have hr2:2≤rest.length:=by omega
 have hlen:(qc qs++rest).length=cap*2:=by rw[List.length_append,qc_len];omega
 have hdl:(qc (qs.drop i)).length=(qs.length-i)*2:=by rw[qc_len,List.length_drop]
 have hov:∀lb cb,(callFunc 91 #[.slice (some ⟨b,0,none⟩) 1 1,.slice (some ⟨g,(i+1)*2,none⟩) lb cb]).run prog w=.ok (.value (.bool false)) w:=fun lb cb=>by
  rw[run_callFunc_extern func91 (by kernel_rfl) (by kernel_rfl) (by kernel_rfl) (e:=Extern.SlicesOverlaps.overlaps #[91,91] #[4]) (by kernel_rfl),
   Lib.run_overlaps_apart w 91 4 68 underlying91 2 sizeOf68 ⟨b,0,none⟩ ⟨g,(i+1)*2,none⟩ 1 1 lb cb hne 68 68 2 (cap*2) (by simp[World.shape?,hb.h]) (by simp[World.shape?,hg.h,qc_len];omega) (by omega) (hb.frozen 0) (hb.frozen 2)]
  rfl
 have hcs:∀j v,(qc (qs.drop i))[j]?=some v→w.drew.cell? (({block:=g,off:=i*2}:Addr).add j)=some v:=fun j v hj=>by
  have hjl:=(List.getElem?_eq_some_iff.1 hj).1
  rw[Addr.add_mid,hg.drew.cell,List.getElem?_append_left (by rw[qc_len];rw[hdl] at hjl;omega),qc_split qs i,List.getElem?_append_right (by rw[qc_len,List.length_take];omega),qc_len,List.length_take,show i*2+j-min i qs.length*2=j by omega]
  exact hj
 have hcp1:∀ty dc sc,(Builtin.copy_ #[91,91] ty #[.slice (some ⟨g,(i+1)*2,none⟩) (qs.length-i) dc,.slice (some ⟨g,i*2,none⟩) (qs.length+1-i) sc]).run prog w.drew=.ok (goInt (qs.length-i:Nat)) (w.drew.setCells g ((i+1)*2) (qc (qs.drop i))):=fun ty dc sc=>
  copy_2 w.drew ty g _ _ _ _ _ _ (qs.length-i) _ (by simp only[Nat.min_def];split<;>omega) hdl hcs (fun j hj=>by rw[hg.drew.cell,List.getElem?_eq_getElem (by omega)];rfl) (fun j hj=>hg.drew.frozen _) (fun v hv=>qc_one hv)
 have hB1:=Blk.sets (qc (qs.drop i)) hg.drew ((i+1)*2) (by omega)
 have hC1:=chg_sets g (qc (qs.drop i)) ((i+1)*2) w.drew
 have hb1:=hb.drew.chg hC1 hne
 have hcp2:∀ty dc,(Builtin.copy_ #[91,91] ty #[.slice (some ⟨g,i*2,none⟩) (qs.length+1-i) dc,.slice (some ⟨b,0,none⟩) 1 1]).run prog (w.drew.setCells g ((i+1)*2) (qc (qs.drop i)))=.ok (goInt 1) ((w.drew.setCells g ((i+1)*2) (qc (qs.drop i))).setCells g (i*2) [I x,I m]):=fun ty dc=>
  copy_2 _ ty g _ _ _ _ _ _ 1 [I x,I m] (by simp only[Nat.min_def];split<;>omega) rfl (fun j v hj=>by
   have:=hb1.cell j
   rw[hj] at this
   rw[Addr.add_mid,Nat.zero_add];exact this) (fun j hj=>by
   rw[hB1.cell,List.getElem?_eq_getElem (by
    rw[List.length_append,List.length_append,List.length_take,List.length_drop,hlen,hdl]
    simp at hj;omega)];rfl) (fun j hj=>hB1.frozen _) (fun v hv=>by simp at hv;rcases hv with rfl|rfl<;>rfl)
 have hlb:i*2+2≤((qc qs++rest).take ((i+1)*2)++qc (qs.drop i)++(qc qs++rest).drop ((i+1)*2+(qc (qs.drop i)).length)).length:=by
  rw[List.length_append,List.length_append,List.length_take,List.length_drop,hlen,hdl]
  omega
 have hB2:=Blk.sets [I x,I m] hB1 (i*2) (by simpa using hlb)
 have hC2:=(((G.refl w).drew.chg (F:=fun k=>k=g)).trans hC1).trans (chg_sets g [I x,I m] (i*2) _)
 have hsh:=shift_cells (qc (qs.take i)) (qc (qs.drop i)) rest (i*2) (by rw[qc_len,List.length_take];omega) hr2 (I x) (I m)
 simp only[←qc_split] at hsh
 rw[show(i+1)*2=i*2+2 by omega] at hB2 hC2 hcp1 hcp2 hov
 have hB3:Blk ((w.drew.setCells g (i*2+2) (qc (qs.drop i))).setCells g (i*2) [I x,I m]) g 68 (qc (putQ qs i x m)++rest.drop 2):=by
  have h:=hB2
  rw[show([I x,I m]:List Value).length=2 from rfl,hsh,←qc_put] at h
  exact h
 have HB3:=hide hB3
 have HC3:=hide hC2
 have HP1:=hide hcp1
 have HP2:=hide hcp2
 clear hB1 hC1 hb1 hcp1 hcp2 hlb hB2 hC2 hsh hB3 hcs hdl hlen hg hb hr2 hcap
 have f1:(i:Int)≤qs.length:=by omega
 have f2:¬((i:Int)=(qs.length:Int)):=by omega
 have f3:¬((cap:Int)<(qs.length:Int)+1):=by omega
 have f4:wrap64 ((qs.length:Int)+1)=(qs.length:Int)+1:=by unfold wrap64;omega
 have f5:wrap64 ((i:Int)+1)=(i:Int)+1:=by unfold wrap64;omega
 have f6:IntKind.i64.wrap ((i:Int)+1)=(i:Int)+1:=by rw[IntKind.wrap_i64];omega
 have f7:((i:Int)+1).toNat=i+1:=by omega
 have f8:((qs.length:Int)+1).toNat=qs.length+1:=by omega
 have f9:¬(cap=i+1):=by omega
 have f10:¬(cap=i):=by omega
 have f11:(i+1)*2=i*2+2:=by omega
 have f12:(0:Int)≤(i:Int)+1:=by omega
 have f13:(0:Int)≤(qs.length:Int)+1:=by omega
 have f14:(i:Int)+1≤(qs.length:Int)+1:=by omega
 have f15:(i:Int)≤(qs.length:Int)+1:=by omega
 have f16:(qs.length:Int)+1≤(cap:Int):=by omega
 clear hm63 hmax
 go_enter func59,ntmps59
 go_wp2_with (simp only[hov])
 have hcp1:=HP1.out
 go_region
 clear hcp1
 go_wp2_with fail
 rw[HP2.out]
 go_wp2
 go_ret
 exact⟨rfl,HB3.out,HC3.out⟩
theorem grow_cells(A D Z1 Z2:List Value)(k:Nat)(hA:A.length=k)(hZ:Z1.length=D.length+2)(x m:Value) :
  let xs:=A++Z1++Z2
  let ys:=xs.take k++[x,m]++xs.drop (k+2)
  ys.take (k+2)++D++ys.drop (k+2+D.length)=A++([x,m]++D)++Z2:=by
 subst hA
 intro xs ys
 have e1:xs.take A.length=A:=by
  show(A++Z1++Z2).take A.length=A
  rw[List.append_assoc,List.take_append_of_le_length (Nat.le_refl _),List.take_length]
 have e2:xs.drop (A.length+2)=Z1.drop 2++Z2:=by
  show(A++Z1++Z2).drop (A.length+2)=_
  rw[List.append_assoc,List.drop_append,List.drop_of_length_le (by omega),List.drop_append]
  have:A.length+2-A.length-Z1.length=0:=by omega
  rw[this]
  simp
 have e4:ys=(A++[x,m])++(Z1.drop 2++Z2):=by
  show xs.take A.length++[x,m]++xs.drop (A.length+2)=_
  rw[e1,e2]
 have hl:(A++[x,m]).length=A.length+2:=by simp
 rw[e4,←hl,List.take_append_of_le_length (Nat.le_refl _),List.take_length,List.drop_append,List.drop_of_length_le (by omega),List.drop_append,List.drop_of_length_le (by rw[List.length_drop];omega)]
 have:(A++[x,m]).length+D.length-(A++[x,m]).length-(Z1.drop 2).length=0:=by rw[List.length_drop];omega
 rw[this]
 simp
theorem grow_pre(qs:List (Int×Int))(g i:Nat)(rest:List Value)(x m:Int)(b:Nat)(w:World)(hg:Blk w g 68 (qc qs++rest))(hb:Blk w b 68 [I x,I m])(hi:i<qs.length)(hbig:(qs.length+1)*16≤140737488355328) :
  ∃(C:Nat) (Z2:List Value) (W1 W2:World),(∀ty,(Builtin.append_ #[91,3] ty #[.slice (some ⟨g,0,none⟩) i qs.length,.int .i64 ((qs.length+1-i:Nat):Int)]).run prog w=.ok (.slice (some ⟨w.heap.size,0,none⟩) (qs.length+1) C) W1)
   ∧ (∀ty dc,(Builtin.copy_ #[91,91] ty #[.slice (some ⟨w.heap.size,i*2,none⟩) (qs.length+1-i) dc,.slice (some ⟨b,0,none⟩) 1 1]).run prog W1=.ok (goInt 1) W2)
   ∧ (∀ty dc sc,(Builtin.copy_ #[91,91] ty #[.slice (some ⟨w.heap.size,i*2+2,none⟩) (qs.length-i) dc,.slice (some ⟨g,i*2,none⟩) (qs.length-i) sc]).run prog W2.drew=.ok (goInt (qs.length-i:Nat)) (W2.drew.setCells w.heap.size (i*2+2) (qc (qs.drop i))))
   ∧ Blk (W2.drew.setCells w.heap.size (i*2+2) (qc (qs.drop i))) w.heap.size 68 (qc (putQ qs i x m)++Z2)∧G w (W2.drew.setCells w.heap.size (i*2+2) (qc (qs.drop i)))∧Z2.length=(C-(qs.length+1))*2∧C≤maxLen∧qs.length+1≤C:=by
 obtain⟨i0,hi0,hz0,hzs,hzb⟩:=info_parts (show(prog.info? 68).map (fun i=>(i.zero,i.size,i.bytes))=some (some (.agg #[.int .i64 0,.int .i64 0]),2,16)from by kernel_rfl)
 have hdl:(qc (qs.drop i)).length=(qs.length-i)*2:=by rw[qc_len,List.length_drop]
 have hal:(qc (qs.take i)).length=i*2:=by rw[qc_len,List.length_take];omega
 have hik:i+(qs.length+1-i)=qs.length+1:=by omega
 have hold:(Builtin.firstCells i0.size i (.slice (some ⟨g,0,none⟩) i qs.length)).run prog w.drew=.ok (qc (qs.take i)).toArray w.drew:=by
  rw[hzs]
  exact run_firstCells_some w.drew 2 i ⟨g,0,none⟩ i qs.length (qc (qs.take i)) (by rw[hal]) (fun j v hj=>by
   have hjl:=(List.getElem?_eq_some_iff.1 hj).1
   rw[Addr.add_mid,Nat.zero_add,hg.drew.cell,List.getElem?_append_left (by rw[qc_len];omega),qc_split qs i,List.getElem?_append_left hjl]
   exact hj)
 obtain⟨C,hC⟩:∃C,C=grownCap w (qs.length+1) qs.length 68:=⟨_,rfl⟩
 have hp1:0<qs.length+1-i:=by omega
 have hp2:0<i0.size:=by rw[hzs];decide
 have hp3:qs.length<i+(qs.length+1-i):=by omega
 have hp4:((i+(qs.length+1-i):Nat):Int)≤9223372036854775807:=by omega
 have hp5:(qs.length+1-i)*i0.bytes≤281474976710656:=by rw[hzb];omega
 have hp6:Builtin.nextslicecap (i+(qs.length+1-i)) qs.length*i0.bytes≤281474976710656:=by rw[hzb,hik];exact growslice_fits (Nat.lt_succ_self _) hbig
 have hrz:∀ty,(Builtin.append_ #[91,3] ty #[.slice (some ⟨g,0,none⟩) i qs.length,.int .i64 ((qs.length+1-i:Nat):Int)]).run prog w=.ok (.slice (some ⟨w.heap.size,0,none⟩) (qs.length+1) C) (w.drew.alloc (.cells ((qc (qs.take i)).toArray++Builtin.zeroCells (Value.agg #[.int .i64 0,.int .i64 0]).cells (qs.length+1-i)++Builtin.zeroCells (Value.agg #[.int .i64 0,.int .i64 0]).cells (C-(qs.length+1))) 68)):=fun ty=>by
  have h:=Lib.run_append_grow_zeros w 91 3 ty 68 i0 _ .i64 .i64 underlying91 underlying3 hi0 hz0 (some ⟨g,0,none⟩) i qs.length (qc (qs.take i)) hold (qs.length+1-i) hp1 hp2 hp3 hp4 hp5 hp6
  rw[hik,←hC] at h
  exact h
 have hCn:qs.length+1≤C:=by rw[hC];exact grownCap_ge w _ _ _
 have hCm:C≤maxLen:=by rw[hC];exact grownCap_le_maxLen w (qs.length+1) qs.length 68 (by unfold maxLen;omega)
 obtain⟨Z1,hZ1⟩:∃Z1,Z1=(Builtin.zeroCells (Value.agg #[.int .i64 0,.int .i64 0]).cells (qs.length+1-i)).toList:=⟨_,rfl⟩
 obtain⟨Z2,hZ2⟩:∃Z2,Z2=(Builtin.zeroCells (Value.agg #[.int .i64 0,.int .i64 0]).cells (C-(qs.length+1))).toList:=⟨_,rfl⟩
 have hl1:Z1.length=(qc (qs.drop i)).length+2:=by rw[hZ1,hdl];simp[Builtin.zeroCells,Value.cells];omega
 have hl2:Z2.length=(C-(qs.length+1))*2:=by rw[hZ2];simp[Builtin.zeroCells,Value.cells]
 have hrow:((qc (qs.take i)).toArray++Builtin.zeroCells (Value.agg #[.int .i64 0,.int .i64 0]).cells (qs.length+1-i)++Builtin.zeroCells (Value.agg #[.int .i64 0,.int .i64 0]).cells (C-(qs.length+1)))=(qc (qs.take i)++Z1++Z2).toArray:=by
  rw[hZ1,hZ2];apply Array.ext';simp
 rw[hrow] at hrz
 have hB1:Blk (w.drew.alloc (.cells (qc (qs.take i)++Z1++Z2).toArray 68)) w.heap.size 68 (qc (qs.take i)++Z1++Z2):=Blk.new w.drew _ 68
 have hG1:G w (w.drew.alloc (.cells (qc (qs.take i)++Z1++Z2).toArray 68)):=((G.refl w).drew).alloc _
 clear hC hold hrow hZ1 hZ2 hz0 hzs hzb hi0
 generalize w.drew.alloc (.cells (qc (qs.take i)++Z1++Z2).toArray 68)=W1 at hrz hB1 hG1
 have hlen:(qc (qs.take i)++Z1++Z2).length=C*2:=by rw[List.length_append,List.length_append,hal,hl1,hl2,hdl];omega
 have hnb:b<w.heap.size:=hb.lt
 have hng:g<w.heap.size:=hg.lt
 have hcpA:∀ty dc,(Builtin.copy_ #[91,91] ty #[.slice (some ⟨w.heap.size,i*2,none⟩) (qs.length+1-i) dc,.slice (some ⟨b,0,none⟩) 1 1]).run prog W1=.ok (goInt 1) (W1.setCells w.heap.size (i*2) [I x,I m]):=fun ty dc=>
  copy_2 _ ty w.heap.size _ _ _ _ _ _ 1 [I x,I m] (by simp only[Nat.min_def];split<;>omega) rfl (fun j v hj=>by
   have:=(hb.G hG1).cell j
   rw[hj] at this
   rw[Addr.add_mid,Nat.zero_add];exact this) (fun j hj=>by rw[hB1.cell,List.getElem?_eq_getElem (by simp at hj;omega)];rfl) (fun j hj=>hB1.frozen _) (fun v hv=>by simp at hv;rcases hv with rfl|rfl<;>rfl)
 have hB2:=Blk.sets [I x,I m] hB1 (i*2) (by simp only[List.length_cons,List.length_nil];omega)
 have hG2:G w (W1.setCells w.heap.size (i*2) [I x,I m]):=G.setCells _ hG1 (Nat.le_refl _)
 generalize W1.setCells w.heap.size (i*2) [I x,I m]=W2 at hcpA hB2 hG2
 have hlen2:((qc (qs.take i)++Z1++Z2).take (i*2)++[I x,I m]++(qc (qs.take i)++Z1++Z2).drop (i*2+([I x,I m]:List Value).length)).length=C*2:=by
  rw[List.length_append,List.length_append,List.length_take,List.length_drop,hlen]
  simp only[List.length_cons,List.length_nil]
  omega
 have hcpB:∀ty dc sc,(Builtin.copy_ #[91,91] ty #[.slice (some ⟨w.heap.size,i*2+2,none⟩) (qs.length-i) dc,.slice (some ⟨g,i*2,none⟩) (qs.length-i) sc]).run prog W2.drew=.ok (goInt (qs.length-i:Nat)) (W2.drew.setCells w.heap.size (i*2+2) (qc (qs.drop i))):=fun ty dc sc=>
  copy_2 _ ty w.heap.size _ _ _ _ _ _ (qs.length-i) _ (by simp only[Nat.min_def];split<;>omega) hdl (fun j v hj=>by
   have hjl:=(List.getElem?_eq_some_iff.1 hj).1
   rw[Addr.add_mid,(hg.G hG2.drew).cell,List.getElem?_append_left (by rw[qc_len];rw[hdl] at hjl;omega),qc_split qs i,List.getElem?_append_right (by rw[hal];omega),hal,show i*2+j-i*2=j by omega]
   exact hj) (fun j hj=>by rw[hB2.drew.cell,List.getElem?_eq_getElem (by omega)];rfl) (fun j hj=>hB2.drew.frozen _) (fun v hv=>qc_one hv)
 have hB3:=Blk.sets (qc (qs.drop i)) hB2.drew (i*2+2) (by rw[hlen2,hdl];omega)
 have hG3:G w (W2.drew.setCells w.heap.size (i*2+2) (qc (qs.drop i))):=G.setCells _ hG2.drew (Nat.le_refl _)
 have hgc:=grow_cells (qc (qs.take i)) (qc (qs.drop i)) Z1 Z2 (i*2) hal hl1 (I x) (I m)
 simp only[List.length_cons,List.length_nil,Nat.zero_add,Nat.reduceAdd] at hB3
 dsimp only at hgc
 rw[hgc,←qc_put] at hB3
 exact⟨C,Z2,W1,W2,hrz,hcpA,hcpB,hB3,hG3,hl2,hCm,hCn⟩
theorem insert_grow(qs:List (Int×Int))(g i:Nat)(rest:List Value)(x m:Int)(b:Nat)(w:World)(hg:Blk w g 68 (qc qs++rest))(hb:Blk w b 68 [I x,I m])(hi:i<qs.length)(hbig:(qs.length+1)*16≤140737488355328) :
  Calls prog 59 #[.slice (some ⟨g,0,none⟩) qs.length qs.length,I (i:Int),.slice (some ⟨b,0,none⟩) 1 1] w fun e w'=>∃cap' rest',e=.returned (.slice (some ⟨w.heap.size,0,none⟩) (qs.length+1) cap')∧Blk w' w.heap.size 68 (qc (putQ qs i x m)++rest')∧(qs.length+1)*2+rest'.length=cap'*2∧cap'≤maxLen∧G w w':=by
 obtain⟨C,Z2,W1,W2,hrz,hcpA,hcpB,hB3,hG3,hl2,hCm,hCn⟩:=grow_pre qs g i rest x m b w hg hb hi hbig
 obtain⟨W3,hW3⟩:∃W3,W3=W2.drew.setCells w.heap.size (i*2+2) (qc (qs.drop i)):=⟨_,rfl⟩
 rw[←hW3] at hcpB hB3 hG3
 have HB3:=hide hB3
 have HG3:=hide hG3
 have HPA:=hide hcpA
 have HPB:=hide hcpB
 have HRZ:=hide hrz
 have HL2:=hide hl2
 have HCM:=hide hCm
 have HCN:=hide hCn
 clear hB3 hG3 hcpA hcpB hrz hl2 hg hb hW3
 have f1:(i:Int)≤qs.length:=by omega
 have f2:¬((i:Int)=(qs.length:Int)):=by omega
 have f3:((qs.length:Int)<(qs.length:Int)+1):=by omega
 have f4:wrap64 ((qs.length:Int)+1)=(qs.length:Int)+1:=by unfold wrap64;omega
 have f5:wrap64 ((i:Int)+1)=(i:Int)+1:=by unfold wrap64;omega
 have f6:IntKind.i64.wrap ((i:Int)+1)=(i:Int)+1:=by rw[IntKind.wrap_i64];omega
 have f7:((i:Int)+1).toNat=i+1:=by omega
 have f8:wrap64 ((qs.length:Int)+1-(i:Int))=((qs.length+1-i:Nat):Int):=by unfold wrap64;omega
 rw[←f8] at HRZ
 clear f8
 have f9:¬(C=i+1):=by omega
 have f10:¬(C=i):=by omega
 have f11:(i+1)*2=i*2+2:=by omega
 have f12:(0:Int)≤(i:Int)+1:=by omega
 have f14:(i:Int)+1≤(qs.length:Int)+1:=by omega
 have f15:(i:Int)≤(qs.length:Int)+1:=by omega
 have f16:¬(qs.length=i):=by omega
 clear hbig hCm hCn
 go_enter func59,ntmps59
 go_wp2_with (first
  | (at_builtin;refine Lib.wpList_append_run _ rfl _ _ 91 3 rfl _ _ rfl rfl _ _ (HRZ.out _) ?_)
  | fail)
 rw[HPA.out]
 go_wp2_with fail
 have hcpB:=HPB.out
 go_region
 clear hcpB
 go_wp2
 go_ret
 exact⟨C,Z2,rfl,HB3.out,by have:=HL2.out;have:=HCN.out;omega,HCM.out,HG3.out⟩
theorem insert_any(qs:List (Int×Int))(v:Value)(i:Nat)(x m:Int)(b:Nat)(w:World)(hq:QSl w v qs)(hb:Blk w b 68 [I x,I m])(hi:i≤qs.length)(hn:(qs.length+1)*16≤140737488355328)(hne:v.ownBlock≠some b) :
  Calls prog 59 #[v,I (i:Int),.slice (some ⟨b,0,none⟩) 1 1] w fun e w'=>∃v',e=.returned v'∧QSl w' v' (putQ qs i x m)∧Chg (fun k=>v.ownBlock=some k) w w'∧(v'.ownBlock=v.ownBlock∨v'.ownBlock=some w.heap.size):=by
 by_cases he:i=qs.length
 ·subst he
  rw[putQ_end]
  exact insert_end qs v x m b w hq hb hn
 rcases hq with ⟨rfl,rfl⟩|⟨g,cap,rest,rfl,hg,hcap,hmax⟩
 ·simp at hi;exact absurd hi he
 by_cases hr:qs.length<cap
 ·refine(insert_shift qs g cap i rest x m b w hg hcap hmax hb (by omega) hr (fun e=>hne (by rw[e];rfl))).mono ?_
  rintro e w' ⟨rfl,hB,hC⟩
  refine⟨_,rfl,.inr ⟨g,cap,rest.drop 2,by rw[putQ_len hi],hB,by rw[putQ_len hi,List.length_drop];omega,hmax⟩,hC.mono (fun k hk=>by rw[hk];rfl),.inl rfl⟩
 ·have hc:cap=qs.length:=by omega
  subst hc
  refine(insert_grow qs g i rest x m b w hg hb (by omega) hn).mono ?_
  rintro e w' ⟨cap',rest',rfl,hB,hl,hm,hG⟩
  exact⟨_,rfl,.inr ⟨_,cap',rest',by rw[putQ_len hi],hB,by rw[putQ_len hi];exact hl,hm⟩,hG.chg,.inr rfl⟩
end
end Go.Proofs.YtadfaiciolfgjaaGreatDoor
