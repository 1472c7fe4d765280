import Derived.Deep.Slices
import Derived.SizedLaws
import Derived.ProofKit
import Derived.OpenShut
import Derived.Test.YtadfaiciolfgjaaGreatDoorLk76
namespace Go.Proofs.YtadfaiciolfgjaaGreatDoor
open Go.Proofs.Tryz
set_option maxRecDepth 100000
section
open Go.ChangeShapes Go.WideShapes Go.ChangeAt Go.RowKit
instance:Inhabited Lo:=⟨⟨0,0,0,0,⟨0,ByteArray.empty,0⟩,0⟩⟩
section
variable {H:Type} {enc:TypeId×Value→H} {w:World}
noncomputable abbrev trodA(enc:TypeId×Value→H)(w:World)(fuel:Nat)(t:TypeId)(cs:List Value):Option (DataW H×List MemPlace):=DataW.trod enc prog w 0 (fun _=>true) true fuel t cs
theorem spot_of{a:Addr}{v:Value}(h:w.cell? (a.add 0)=some v):∃b o,a=⟨b,o,none⟩:=by
 obtain⟨b,o,s⟩:=a
 have e:Addr.add ⟨b,o,s⟩ 0=⟨b,o,s⟩:=by simp[Addr.add]
 rw[e] at h
 cases s with
 | none=>exact⟨b,o,rfl⟩
 | some x=>
  unfold World.cell? at h
  split at h
  ·simp at h
  ·cases h
theorem cells_i:prog.cellsOf 3=1:=by kernel_rfl
theorem cells_6:prog.cellsOf 2=1:=by kernel_rfl
theorem cells_s:prog.cellsOf 9=1:=by kernel_rfl
theorem cells_r:prog.cellsOf 33=3:=by kernel_rfl
theorem cells_o:prog.cellsOf 35=8:=by kernel_rfl
theorem r64_wf{n:Int}(h:(Lit.int .i64 n).wf=true):R64 n:=kyI_ok.1 ⟨_,Maps.keyOf_int_mk underlying3 h⟩
theorem open_rs{n:Nat}{c0 c1 c2:Value}{y:DataW H×List MemPlace}(h:trodA enc w n 33 [c0,c1,c2]=some y):∃r:Rs,c0=I r.lv∧c1=.string r.lb∧c2=I r.id∧r.ok:=by
 obtain⟨xs,n',rfl,_,hl',hx',hf⟩:=DataW.trod_struct underlying33 h
 have f0:trodA enc w n' 3 (([c0,c1,c2].drop 0).take (prog.cellsOf 3))=xs[0]?:=hf 0 _ rfl
 have f1:trodA enc w n' 9 (([c0,c1,c2].drop 1).take (prog.cellsOf 9))=xs[1]?:=hf 1 _ rfl
 have f2:trodA enc w n' 2 (([c0,c1,c2].drop 2).take (prog.cellsOf 2))=xs[2]?:=hf 2 _ rfl
 simp only[cells_i,cells_s,cells_6,List.drop_zero,List.drop_succ_cons,List.take_succ_cons,List.take_zero] at f0 f1 f2
 match xs,hx' with
 | [y0,y1,y2],_=>
  simp only[List.getElem?_cons_zero,List.getElem?_cons_succ] at f0 f1 f2
  obtain⟨q0,e0,_,w0⟩:=DataW.trod_int underlying3 f0
  obtain⟨q1,e1,_,w1⟩:=DataW.trod_string underlying9 f1
  obtain⟨q2,e2,_,w2⟩:=DataW.trod_int underlying2 f2
  simp only[List.cons.injEq,and_true] at e0 e1 e2
  exact⟨⟨q0,q1,q2⟩,e0,e1,e2,r64_wf w0,w1,r64_wf w2⟩
theorem open_lop{n:Nat}{cs:List Value}{y:DataW H×List MemPlace}(h:trodA enc w n 35 cs=some y):∃o:Lo,cs=o.c∧R64 o.x∧o.r.ok:=by
 obtain⟨xs,n',rfl,_,hl',hx',hf⟩:=DataW.trod_struct underlying35 h
 rw[cells_o] at hl'
 match cs,hl' with
 | [c0,c1,c2,c3,c4,c5,c6,c7],_=>
  have f0:trodA enc w n' 3 (([c0,c1,c2,c3,c4,c5,c6,c7].drop 0).take (prog.cellsOf 3))=xs[0]?:=hf 0 _ rfl
  have f1:trodA enc w n' 3 (([c0,c1,c2,c3,c4,c5,c6,c7].drop 1).take (prog.cellsOf 3))=xs[1]?:=hf 1 _ rfl
  have f2:trodA enc w n' 3 (([c0,c1,c2,c3,c4,c5,c6,c7].drop 2).take (prog.cellsOf 3))=xs[2]?:=hf 2 _ rfl
  have f3:trodA enc w n' 2 (([c0,c1,c2,c3,c4,c5,c6,c7].drop 3).take (prog.cellsOf 2))=xs[3]?:=hf 3 _ rfl
  have f4:trodA enc w n' 33 (([c0,c1,c2,c3,c4,c5,c6,c7].drop 4).take (prog.cellsOf 33))=xs[4]?:=hf 4 _ rfl
  have f5:trodA enc w n' 3 (([c0,c1,c2,c3,c4,c5,c6,c7].drop 7).take (prog.cellsOf 3))=xs[5]?:=hf 5 _ rfl
  simp only[cells_i,cells_6,cells_r,List.drop_zero,List.drop_succ_cons,List.take_succ_cons,List.take_zero] at f0 f1 f2 f3 f4 f5
  match xs,hx' with
  | [y0,y1,y2,y3,y4,y5],_=>
   simp only[List.getElem?_cons_zero,List.getElem?_cons_succ] at f0 f1 f2 f3 f4 f5
   obtain⟨q0,e0,_,w0⟩:=DataW.trod_int underlying3 f0
   obtain⟨q1,e1,_,w1⟩:=DataW.trod_int underlying3 f1
   obtain⟨q2,e2,_,w2⟩:=DataW.trod_int underlying3 f2
   obtain⟨q3,e3,_,w3⟩:=DataW.trod_int underlying2 f3
   obtain⟨r,e4,e5,e6,hr⟩:=open_rs f4
   obtain⟨q7,e7,_,w7⟩:=DataW.trod_int underlying3 f5
   simp only[List.cons.injEq,and_true] at e0 e1 e2 e3 e7
   refine⟨⟨q0,q1,q2,q3,r,q7⟩,?_,r64_wf w2,hr⟩
   rw[e0,e1,e2,e3,e4,e5,e6,e7];rfl
theorem open_lops{fuel:Nat}{c:Value}{x:DataW H×List MemPlace}(h:trodA enc w fuel 22 [c]=some x) :
  ∃(N:Nat) (X:Nat→Lo),ScL w c N X∧(∀i,i<N→R64 (X i).x∧(X i).r.ok)∧(N=0∨∃es ss,x.1=.slice es ss∧es.length=N):=by
 rcases Go.Deep.open_slice underlying22 h with ⟨hc,rfl⟩|⟨a,len,cap,m,n,D,Pl,hc,_,hl,hm,rfl,rfl,hx⟩
 ·obtain rfl:c=.slice none 0 0:=by simpa using hc
  exact⟨0,fun _=>⟨0,0,0,0,⟨0,ByteArray.empty,0⟩,0⟩,⟨none,0,rfl,.inl rfl⟩,fun i hi=>(by omega),.inl rfl⟩
 ·have each:∀i,i<m→∃q:Lo,(∀j,j<8→w.cell? (a.add (i*8+j))=q.c[j]?)∧R64 q.x∧q.r.ok:=by
   intro i hi
   obtain⟨cs',h1,h2⟩:=hx i hi
   obtain⟨o,rfl,k1,k2⟩:=open_lop h2
   rw[cells_o] at h1
   obtain⟨_,_,hcell⟩:=World.cells?_some h1
   refine⟨o,fun j hj=>?_,k1,k2⟩
   have:=hcell j hj
   rw[Go.Deep.add_add] at this
   exact this
  obtain⟨X,hX⟩:=Go.Deep.choose_lt each
  obtain rfl:c=.slice (some a) len m:=by simpa using hc
  refine⟨len,X,⟨some a,m,rfl,?_⟩,fun i hi=>(hX i (by omega)).2,.inr ⟨_,_,rfl,by simp⟩⟩
  by_cases h0:len=0
  ·exact .inl h0
  ·obtain⟨b,o,rfl⟩:=spot_of (by have:=(hX 0 (by omega)).1 0 (by omega);simpa [Lo.c] using this)
   refine .inr ⟨b,o,rfl,fun i hi j hj=>?_⟩
   have:=(hX i (by omega)).1 j hj
   rw[Addr.add_mid,←Nat.add_assoc] at this
   exact this
end
end
section
open Go.RowKit
theorem lrl(i:Nat):Value.int .i64 ((i:Int)+1)=Value.int .i64 ((i+1:Nat):Int):=by rw[Int.natCast_succ]
theorem lms{N n:Nat}(h:n<N):N-((n:Int)+1).toNat<N-(n:Int).toNat:=by omega
abbrev SV:=Option Addr×Nat×Nat
def sv(s:SV):Value:=.slice s.1 s.2.1 s.2.2
def HasTy(w:World)(b e:Nat):Prop:=∃cur,w.heap[b]?=some (.cells cur e (0,0))
theorem HasTy.one{w:World}{b e e':Nat}(h:HasTy w b e)(h':HasTy w b e'):e=e':=by
 obtain⟨c,h⟩:=h
 obtain⟨c',h'⟩:=h'
 rw[h] at h'
 simp at h'
 exact h'.2
theorem HasTy.lt{w:World}{b e:Nat}(h:HasTy w b e):b<w.heap.size:=by
 obtain⟨c,h⟩:=h
 exact(Array.getElem?_eq_some_iff.1 h).1
theorem own_ty{w:World}{lo e k n b:Nat}{v:Value}{xs:List Value}(h:w.ownsRow lo e k v n xs)(hb:v.ownBlock=some b):HasTy w b e:=by
 rcases h.2 with ⟨rfl,_⟩|⟨g,cap,cur,rfl,_,hg,_⟩
 ·cases hb
 ·simp[Value.ownBlock] at hb
  subst hb
  exact⟨cur,hg⟩
theorem Blk.ty{w:World}{g:Nat}{e:TypeId}{xs:List Value}(h:Blk w g e xs):HasTy w g e:=⟨_,h.h⟩
theorem own_low{w:World}{b b' e k n:Nat}{v:Value}{xs:List Value}(h:w.ownsRow b e k v n xs)(hb:b'≤b):w.ownsRow b' e k v n xs:=by
 refine⟨h.1,?_⟩
 rcases h.2 with hn|⟨g,cap,cur,rfl,hg,rest⟩
 ·exact .inl hn
 ·exact .inr ⟨g,cap,cur,rfl,Nat.le_trans hb hg,rest⟩
theorem own_sv{w:World}{lo e k n:Nat}{v:Value}{xs:List Value}(h:w.ownsRow lo e k v n xs):∃x:SV,v=sv x∧x.2.1=n:=by
 rcases h.2 with ⟨rfl,rfl⟩|⟨g,cap,cur,rfl,-⟩
 ·exact⟨(none,0,0),rfl,rfl⟩
 ·exact⟨(some ⟨g,0,none⟩,n,cap),rfl,rfl⟩
theorem own_max{w:World}{lo e k n:Nat}{v:Value}{xs:List Value}(h:w.ownsRow lo e k v n xs):n≤maxLen:=by
 rcases h.2 with ⟨rfl,rfl⟩|⟨g,cap,cur,rfl,-,-,h1,h2,-⟩
 ·exact Nat.zero_le _
 ·exact Nat.le_trans h1 h2
theorem own_blk2{w:World}{lo e k n:Nat}{v:Value}{xs:List Value}(h:w.ownsRow lo e k v n xs)(hn:0<n):∃g cap rest,v=.slice (some ⟨g,0,none⟩) n cap∧Blk w g e (xs++rest)∧lo≤g∧n≤cap∧cap≤maxLen∧(xs++rest).length=cap*k:=by
 rcases h.2 with ⟨-,rfl⟩|⟨g,cap,cur,hv,hb,hg,h1,h2,h3,h4⟩
 ·omega
 ·refine⟨g,cap,cur.toList.drop (n*k),hv,⟨?_⟩,hb,h1,h2,?_⟩
  ·rw[←h4,List.take_append_drop]
   exact hg
  ·rw[←h4,List.take_append_drop]
   exact h3
theorem own_of{w:World}{lo e k n g cap:Nat}{xs rest:List Value}(h:Blk w g e (xs++rest))(hl:xs.length=n*k)(hb:lo≤g)(h1:n≤cap)(h2:cap≤maxLen)(h3:(xs++rest).length=cap*k):w.ownsRow lo e k (.slice (some ⟨g,0,none⟩) n cap) n xs:=
 ⟨hl,.inr ⟨g,cap,(xs++rest).toArray,rfl,hb,h.h,h1,h2,by simpa using h3,by simp[←hl]⟩⟩
theorem own_cell2{w:World}{lo e k n g cap:Nat}{xs:List Value}(h:w.ownsRow lo e k (.slice (some ⟨g,0,none⟩) n cap) n xs)(o:Nat)(ho:o<xs.length):w.cell? ⟨g,o,none⟩=xs[o]?:=by
 rcases h.2 with ⟨h0,_⟩|⟨g',cap',cur,hv,-,hg,-,-,-,ht⟩
 ·cases h0
 ·cases hv
  have h1:w.cell? ⟨g,o,none⟩=cur.toList[o]?:=by simp[World.cell?,hg]
  rw[h1,←ht,List.getElem?_take_of_lt (by have:=h.1;omega)]
theorem own_sets{w:World}{lo e k n g cap:Nat}{xs:List Value}(h:w.ownsRow lo e k (.slice (some ⟨g,0,none⟩) n cap) n xs)(hn:0<n)(o:Nat)(vs:List Value)(hl:o+vs.length≤xs.length):(w.setCells g o vs).ownsRow lo e k (.slice (some ⟨g,0,none⟩) n cap) n (xs.take o++vs++xs.drop (o+vs.length)):=by
 obtain⟨g',cap',rest,hv,hB,hlo,h1,h2,h3⟩:=own_blk2 h hn
 cases hv
 have h4:=hB.sets vs o (by rw[List.length_append];omega)
 have e:(xs++rest).take o++vs++(xs++rest).drop (o+vs.length)=(xs.take o++vs++xs.drop (o+vs.length))++rest:=by
  rw[List.take_append_of_le_length (by omega),List.drop_append_of_le_length hl,List.append_assoc,List.append_assoc,List.append_assoc]
 rw[e] at h4
 have hlen:(xs.take o++vs++xs.drop (o+vs.length)).length=xs.length:=by
  simp only[List.length_append,List.length_take,List.length_drop];omega
 exact own_of h4 (by rw[hlen];exact h.1) hlo h1 h2 (by rw[List.length_append,hlen,←List.length_append];exact h3)
theorem own_there{w:World}{lo e k n g cap:Nat}{xs:List Value}(h:w.ownsRow lo e k (.slice (some ⟨g,0,none⟩) n cap) n xs)(hn:0<n)(o m:Nat)(hl:o+m≤xs.length):w.there g o m:=by
 obtain⟨g',cap',rest,hv,hB,-⟩:=own_blk2 h hn
 cases hv
 exact hB.there o m (by rw[List.length_append];omega)
theorem app_keep{P:Program}(w:World)(base:Nat)(t ty e:TypeId)(i:TypeInfo)(z:Value)(size bytes:Nat)(ht:P.underlying t=some (.slice e))(hi:P.info? e=some i)(hz:i.zero=some z)
  (hsize:i.size=size) (hby:i.bytes=bytes) (hzs:z.cells.size=size) (hsz:0<size)
  (v:Value) (n:Nat) (xs:List Value) (hown:w.ownsRow base e size v n xs)
  (a:Addr) (c:Nat) (news:List Value) (hl:news.length=1*size) (hnews:∀j u,news[j]?=some u→w.cell? (a.add j)=some u) (h1:∀u∈news,u.oneCell'=true)
  (h63:n+1≤maxLen) (hbytes:(n+1)*bytes≤140737488355328) (hbase:base≤w.heap.size) :
  ∃v' w',(Builtin.append_ #[t,t] ty #[v,.slice (some a) 1 c]).run P w=.ok v' w'∧w'.ownsRow base e size v' (n+1) (xs++news)∧
   ((∃g cap,v=.slice (some ⟨g,0,none⟩) n cap∧v'=.slice (some ⟨g,0,none⟩) (n+1) cap∧Chg (fun k=>k=g) w w')∨((∀k,v'.ownBlock=some k→w.heap.size≤k)∧G w w')):=by
 obtain⟨v',w',hr,q2,q3,_,q5⟩:=run_append_own_at (P:=P) w base t ty e i z size bytes ht hi hz hsize hby hzs hsz v n xs hown a 1 c news hl hnews h1 h63 hbytes hbase
 have hch:Chg (fun k=>v.ownBlock=some k) w w':=⟨q3.os,q3.tape,q3.output,q3.size,fun k hk hn=>q3.block k hk (fun e=>hn e.symm)⟩
 refine⟨v',w',hr,q2,?_⟩
 rcases hown.2 with ⟨rfl,rfl⟩|⟨g,cap,cur,rfl,hbg,hg,hnc,hcm,hcs,htake⟩
 ·refine .inr ⟨fun k hk=>?_,hch.G (fun k hk=>by simp[Value.ownBlock] at hk)⟩
  rcases q5 with q5|q5
  ·rw[q5] at hk;simp[Value.ownBlock] at hk
  ·rw[q5] at hk;have:=Option.some.inj hk;omega
 ·by_cases hroom:n+1≤cap
  ·have hfit:n*i.size+news.length≤cur.size:=by rw[hl,hcs,hsize,←Nat.add_mul];exact Nat.mul_le_mul_right _ hroom
   have hr2:=run_append_room (P:=P) w t ty e i ht hi g n cap cur hg a 1 c news (by rw[hsize];exact hl) hnews h1 hroom hfit
   rw[hr] at hr2
   simp only[Result.ok.injEq] at hr2
   exact .inl ⟨g,cap,rfl,hr2.1,hch.mono (fun k hk=>by simpa [Value.ownBlock] using hk.symm)⟩
  ·have holds:∀j u,xs[j]?=some u→w.cell? ((⟨g,0,none⟩:Addr).add j)=some u:=World.ownsRow.cells hown (g:=g) rfl
   have hr2:=run_append_grow (P:=P) w t ty e i z ht hi hz ⟨g,0,none⟩ n cap xs (by rw[hsize];exact hown.1) holds a 1 c news (by rw[hsize];exact hl) hnews (by omega) (by unfold maxLen at h63;omega) (growslice_fits (by omega) (by rw[hby];exact hbytes))
   rw[hr] at hr2
   simp only[Result.ok.injEq] at hr2
   refine .inr ⟨fun k hk=>?_,?_⟩
   ·rw[hr2.1] at hk
    simp[Value.ownBlock] at hk
    omega
   ·rw[hr2.2]
    exact((G.refl w).drew).alloc _
structure Kst where
 v:Value
 u:Value
 es:List SV
 ws:List SV
 C:Nat→List Value
def Kst.At(q:Kst)(b:Nat):Prop:=q.v.ownBlock=some b∨q.u.ownBlock=some b∨∃x∈q.es,(sv x).ownBlock=some b
structure Kc(w:World)(lo ty ts k:Nat)(q:Kst):Prop where
 r1:w.ownsRow lo ts 1 q.v q.es.length (q.es.map sv)
 r2:w.ownsRow lo ts 1 q.u q.ws.length (q.ws.map sv)
 ne:∀b,q.v.ownBlock=some b→q.u.ownBlock≠some b
 own:∀(i:Nat) (x:SV),q.es[i]?=some x→w.ownsRow lo ty k (sv x) x.2.1 (q.C i)
 dis:∀(i j:Nat) (x y:SV) (b:Nat),q.es[i]?=some x→q.es[j]?=some y→(sv x).ownBlock=some b→(sv y).ownBlock=some b→i=j
section
variable {w w':World} {lo ty ts k:Nat} {q:Kst} {F:Nat→Prop}
theorem Kc.chg(h:Kc w lo ty ts k q)(c:Chg F w w')(hF:∀b,q.At b→¬F b):Kc w' lo ty ts k q:=
 ⟨own_chg h.r1 c (fun b e=>hF b (.inl e)),own_chg h.r2 c (fun b e=>hF b (.inr (.inl e))),h.ne,fun i x e=>own_chg (h.own i x e) c (fun b e2=>hF b (.inr (.inr ⟨x,List.mem_of_getElem? e,e2⟩))),h.dis⟩
theorem Kc.G(h:Kc w lo ty ts k q)(g:Go.Proofs.YtadfaiciolfgjaaGreatDoor.G w w'):Kc w' lo ty ts k q:=h.chg (F:=fun _=>False) g.chg (fun _ _=>id)
theorem Kc.typ(h:Kc w lo ty ts k q){b:Nat}(hb:q.At b):HasTy w b ty∨HasTy w b ts:=by
 rcases hb with hb|hb|⟨x,hx,hb⟩
 ·exact .inr (own_ty h.r1 hb)
 ·exact .inr (own_ty h.r2 hb)
 ·obtain⟨i,hi⟩:=List.mem_iff_getElem?.1 hx
  exact .inl (own_ty (h.own i x hi) hb)
theorem Kc.lt(h:Kc w lo ty ts k q){b:Nat}(hb:q.At b):b<w.heap.size:=(h.typ hb).elim HasTy.lt HasTy.lt
theorem Kc.low(h:Kc w lo ty ts k q){b:Nat}(hb:q.At b):lo≤b:=by
 rcases hb with hb|hb|⟨x,hx,hb⟩
 ·exact(World.ownsRow.lt h.r1 b hb).1
 ·exact(World.ownsRow.lt h.r2 b hb).1
 ·obtain⟨i,hi⟩:=List.mem_iff_getElem?.1 hx
  exact(World.ownsRow.lt (h.own i x hi) b hb).1
theorem Kc.off(h:Kc w lo ty ts k q)(c:Chg F w w')(hF:∀b,F b→b<w.heap.size→∃e,HasTy w b e∧e≠ty∧e≠ts):Kc w' lo ty ts k q:=
 h.chg c (fun b hb hf=>by
  obtain⟨e,h1,h2,h3⟩:=hF b hf (h.lt hb)
  rcases h.typ hb with h4|h4
  ·exact h2 (h1.one h4)
  ·exact h3 (h1.one h4))
theorem Kc.put(h:Kc w lo ty ts k q)(hne:ty≠ts){i:Nat}{x:SV}(hi:q.es[i]?=some x)(c:Chg (fun b=>(sv x).ownBlock=some b) w w'){cs:List Value}(hx:w'.ownsRow lo ty k (sv x) x.2.1 cs):Kc w' lo ty ts k ⟨q.v,q.u,q.es,q.ws,fun j=>if j=i then cs else q.C j⟩:=by
 have h0:=h.own i x hi
 refine⟨own_chg h.r1 c (fun b e f=>hne ((own_ty h0 f).one (own_ty h.r1 e))),own_chg h.r2 c (fun b e f=>hne ((own_ty h0 f).one (own_ty h.r2 e))),h.ne,fun j y e=>?_,h.dis⟩
 by_cases hj:j=i
 ·subst hj
  rw[hi] at e
  cases e
  simp only[if_pos]
  exact hx
 ·simp only[if_neg hj]
  exact own_chg (h.own j y e) c (fun b e2 f=>hj (h.dis j i y x b e hi e2 f))
theorem Kc.push1(h:Kc w lo ty ts k q)(hne:ty≠ts){x:SV}{cs:List Value}{v':Value}(hx:w.ownsRow lo ty k (sv x) x.2.1 cs)(hn:∀b,(sv x).ownBlock=some b→¬q.At b)(c:Chg (fun b=>q.v.ownBlock=some b) w w')(hr:w'.ownsRow lo ts 1 v' (q.es++[x]).length ((q.es++[x]).map sv))(ho:∀b,v'.ownBlock=some b→q.v.ownBlock=some b∨w.heap.size≤b) :
  Kc w' lo ty ts k ⟨v',q.u,q.es++[x],q.ws,fun j=>if j=q.es.length then cs else q.C j⟩:=by
 have hoff:∀(y:SV) (n:Nat) (ys:List Value),w.ownsRow lo ty k (sv y) n ys→w'.ownsRow lo ty k (sv y) n ys:=fun y n ys hy=>own_chg hy c (fun b e f=>hne ((own_ty hy e).one (own_ty h.r1 f)))
 have hat:∀(i:Nat) (y:SV),(q.es++[x])[i]?=some y→(i<q.es.length∧q.es[i]?=some y)∨(i=q.es.length∧y=x):=fun i y e=>by
  by_cases hlt:i<q.es.length
  ·rw[List.getElem?_append_left hlt] at e
   exact .inl ⟨hlt,e⟩
  ·have hle:=(List.getElem?_eq_some_iff.1 e).1
   simp at hle
   have:i=q.es.length:=by omega
   subst this
   simp at e
   exact .inr ⟨rfl,e.symm⟩
 refine⟨hr,own_chg h.r2 c (fun b e f=>h.ne b f e),fun b e f=>?_,fun i y e=>?_,fun i j y z b e1 e2 f1 f2=>?_⟩
 ·rcases ho b e with h1|h1
  ·exact h.ne b h1 f
  ·have:=own_lt h.r2 f;omega
 ·rcases hat i y e with ⟨h1,h2⟩|⟨h1,h2⟩
  ·simp only[if_neg (show¬i=q.es.length by omega)]
   exact hoff y _ _ (h.own i y h2)
  ·subst h1;subst h2
   simp only[if_pos]
   exact hoff _ _ _ hx
 ·rcases hat i y e1 with ⟨h1,h2⟩|⟨h1,h2⟩<;>rcases hat j z e2 with ⟨h3,h4⟩|⟨h3,h4⟩
  ·exact h.dis i j y z b h2 h4 f1 f2
  ·subst h4
   exact absurd (.inr (.inr ⟨y,List.mem_of_getElem? h2,f1⟩)) (hn b f2)
  ·subst h2
   exact absurd (.inr (.inr ⟨z,List.mem_of_getElem? h4,f2⟩)) (hn b f1)
  ·omega
theorem Kc.push2(h:Kc w lo ty ts k q)(hne:ty≠ts){y:SV}{u':Value}(c:Chg (fun b=>q.u.ownBlock=some b) w w')(hr:w'.ownsRow lo ts 1 u' (q.ws++[y]).length ((q.ws++[y]).map sv))(ho:∀b,u'.ownBlock=some b→q.u.ownBlock=some b∨w.heap.size≤b) :
  Kc w' lo ty ts k ⟨q.v,u',q.es,q.ws++[y],q.C⟩:=by
 refine⟨own_chg h.r1 c (fun b e f=>h.ne b e f),hr,fun b e f=>?_,fun i z e=>own_chg (h.own i z e) c (fun b e2 f=>hne ((own_ty (h.own i z e) e2).one (own_ty h.r2 f))),h.dis⟩
 rcases ho b f with h1|h1
 ·exact h.ne b e h1
 ·have:=own_lt h.r1 e;omega
end
def Ms1(c:List Value)(n:Nat):List Value:=(List.replicate n c).flatten
theorem Ms1_len(c:List Value)(n:Nat):(Ms1 c n).length=n*c.length:=by
 induction n with
 | zero=>simp[Ms1]
 | succ n ih=>unfold Ms1 at *;rw[List.replicate_succ,List.flatten_cons,List.length_append,ih,Nat.succ_mul];omega
theorem Ms1_snoc(c:List Value)(n:Nat):Ms1 c (n+1)=Ms1 c n++c:=by
 unfold Ms1
 rw[List.replicate_succ',List.flatten_append]
 simp
theorem Ms1_at(c:List Value):∀(n j o:Nat),j<n→o<c.length→(Ms1 c n)[j*c.length+o]?=c[o]?
 | 0,j,o,hj,_=>by omega
 | n+1,0,o,_,ho=>by
  show(c++Ms1 c n)[0*c.length+o]?=_
  rw[Nat.zero_mul,Nat.zero_add,List.getElem?_append_left ho]
 | n+1,j+1,o,hj,ho=>by
  show(c++Ms1 c n)[(j+1)*c.length+o]?=_
  have e:(j+1)*c.length+o=c.length+(j*c.length+o):=by rw[Nat.succ_mul];omega
  rw[e,List.getElem?_append_right (by omega),Nat.add_sub_cancel_left]
  exact Ms1_at c n j o (by omega) ho
def Mk(mk:Nat→List Value)(q:Kst)(n:Nat):Prop:=∀(t:Nat) (x:SV),t<n→q.es[t]?=some x→q.C t=Ms1 (mk t) x.2.1
structure M1(w:World)(lo ty ts k:Nat)(mk:Nat→List Value)(q0 q:Kst)(i j:Nat):Prop where
 kc:Kc w lo ty ts k q
 ev:q.v=q0.v
 eu:q.u=q0.u
 ee:q.es=q0.es
 ew:q.ws=q0.ws
 mkd:Mk mk q i
 now:∀x,q.es[i]?=some x→(q.C i).take (j*k)=Ms1 (mk i) j
section
variable {w w':World} {lo ty ts k:Nat} {mk:Nat→List Value} {q0 q:Kst} {i j:Nat}
theorem M1.G(h:M1 w lo ty ts k mk q0 q i j)(g:Go.Proofs.YtadfaiciolfgjaaGreatDoor.G w w'):M1 w' lo ty ts k mk q0 q i j:=⟨h.kc.G g,h.ev,h.eu,h.ee,h.ew,h.mkd,h.now⟩
theorem M1.zero(h:Kc w lo ty ts k q)(hm:Mk mk q i):M1 w lo ty ts k mk q q i 0:=⟨h,rfl,rfl,rfl,rfl,hm,fun x _=>by simp[Ms1]⟩
theorem M1.next(h:M1 w lo ty ts k mk q0 q i j){x:SV}(hx:q.es[i]?=some x)(hj:j=x.2.1):M1 w lo ty ts k mk q0 q (i+1) 0:=by
 refine⟨h.kc,h.ev,h.eu,h.ee,h.ew,fun t y ht hy=>?_,fun y _=>by simp[Ms1]⟩
 by_cases ht2:t=i
 ·subst ht2
  rw[hx] at hy
  cases hy
  have h1:=h.now x hx
  rw[hj,←(h.kc.own t x hx).1,List.take_length] at h1
  exact h1
 ·exact h.mkd t y (by omega) hy
theorem M1.put(h:M1 w lo ty ts k mk q0 q i j)(hne:ty≠ts)(hk:∀t,(mk t).length=k){x:SV}(hx:q.es[i]?=some x)(hj:j<x.2.1){g cap:Nat}(hg:x=(some ⟨g,0,none⟩,x.2.1,cap)):∃q',M1 (w.setCells g (j*k) (mk i)) lo ty ts k mk q0 q' i (j+1)∧q'.es=q.es∧Chg (fun b=>b=g) w (w.setCells g (j*k) (mk i)):=by
 have h0:=h.kc.own i x hx
 have hsv:sv x=.slice (some ⟨g,0,none⟩) x.2.1 cap:=by rw[hg];rfl
 have h0':=h0
 rw[hsv] at h0'
 have hlen:j*k+(mk i).length≤(q.C i).length:=by
  rw[h0.1,hk,←Nat.succ_mul]
  exact Nat.mul_le_mul_right _ hj
 have h1:=own_sets h0' (by omega) (j*k) (mk i) hlen
 have hc:Chg (fun b=>b=g) w (w.setCells g (j*k) (mk i)):=chg_setCells w _ (.inl rfl)
 have hc2:Chg (fun b=>(sv x).ownBlock=some b) w (w.setCells g (j*k) (mk i)):=hc.mono (fun b e=>by rw[hsv,e];rfl)
 rw[←hsv] at h1
 have h2:=h.kc.put hne hx hc2 h1
 refine⟨_,⟨h2,h.ev,h.eu,h.ee,h.ew,fun t y ht hy=>?_,fun y hy=>?_⟩,rfl,hc⟩
 ·show(if t=i then _ else q.C t)=_
  rw[if_neg (by omega)]
  exact h.mkd t y ht hy
 ·show(if i=i then _ else q.C i).take _=_
  rw[if_pos rfl,Ms1_snoc,←h.now x hx]
  have e1:(j+1)*k=((q.C i).take (j*k)++mk i).length:=by
   rw[List.length_append,List.length_take,hk,Nat.succ_mul]
   have:=hk i
   omega
  rw[e1,List.take_left']
  rfl
end
end
end Go.Proofs.YtadfaiciolfgjaaGreatDoor
