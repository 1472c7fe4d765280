import Derived.Deep.Slices
import Derived.SizedLaws
import Derived.ProofKit
import Derived.Test.YthmdjhfbhbheeaaGreatDoorScript
namespace Go.Proofs.YthmdjhfbhbheeaaGreatDoor
open Go.Proofs.Tryz
set_option maxHeartbeats 1000000
set_option maxRecDepth 100000
section
open Go.ChangeShapes Go.WideShapes Go.ChangeAt Go.RowKit
theorem cells_val:prog.cellsOf 31=4:=by kernel_rfl
theorem cells_op:prog.cellsOf 35=19:=by kernel_rfl
theorem cells_int:prog.cellsOf 3=1:=by kernel_rfl
theorem cells_i64:prog.cellsOf 2=1:=by kernel_rfl
theorem cells_str:prog.cellsOf 9=1:=by kernel_rfl
theorem cells_vs:prog.cellsOf 32=1:=by kernel_rfl
theorem cells_bs:prog.cellsOf 33=1:=by kernel_rfl
theorem cells_u8:prog.cellsOf 5=1:=by kernel_rfl
theorem bytes_val:prog.bytesOf 31=40:=by kernel_rfl
theorem bytes_u8:prog.bytesOf 5=1:=by kernel_rfl
theorem bytes_op:prog.bytesOf 35=216:=by kernel_rfl
def R64(n:Int):Prop:=-9223372036854775808≤n∧n≤9223372036854775807
theorem r64{n:Int}(h:(Lit.int .i64 n).wf=true):R64 n:=by
 unfold R64
 simpa [Lit.wf,IntKind.min,IntKind.max,IntKind.signed,IntKind.bits] using h
theorem u8b{n:Int}(h:(Lit.int .u8 n).wf=true):0≤n∧n≤255:=by
 simpa [Lit.wf,IntKind.min,IntKind.max,IntKind.signed,IntKind.bits] using h
section
variable {H:Type} {enc:TypeId×Value→H} {w:World}
noncomputable abbrev trodA(enc:TypeId×Value→H)(w:World)(fuel:Nat)(t:TypeId)(cs:List Value):Option (DataW H×List MemPlace):=DataW.trod enc prog w 0 (fun _=>true) true fuel t cs
def Small(t:TypeId)(d:DataW H):Prop:=∀n∈d.weights prog t,n≤reachBytes
theorem size_mem(s:ByteArray):s.size∈(DataW.lit (.string s.data.toList):DataW H).weights prog 9:=by
 show s.size∈[s.data.toList.length]
 rw[Array.length_toList]
 exact List.mem_singleton.2 rfl
theorem open_val{fuel:Nat}{cs:List Value}{x:DataW H×List MemPlace}(h:trodA enc w fuel 31 cs=some x)(hs:Small 31 x.1) :
  ∃(k a b:Int) (s:ByteArray),cs=[I k,I a,I b,.string s]∧R64 k∧R64 a∧R64 b∧s.size≤reachBytes:=by
 obtain⟨xs,n,rfl,rfl,hl,hx,hf⟩:=DataW.trod_struct underlying31 h
 rw[cells_val] at hl
 match cs,hl with
 | [c0,c1,c2,c3],_=>
  have f0:trodA enc w n 3 (([c0,c1,c2,c3].drop 0).take (prog.cellsOf 3))=xs[0]?:=hf 0 _ rfl
  have f1:trodA enc w n 2 (([c0,c1,c2,c3].drop 1).take (prog.cellsOf 2))=xs[1]?:=hf 1 _ rfl
  have f2:trodA enc w n 2 (([c0,c1,c2,c3].drop 2).take (prog.cellsOf 2))=xs[2]?:=hf 2 _ rfl
  have f3:trodA enc w n 9 (([c0,c1,c2,c3].drop 3).take (prog.cellsOf 9))=xs[3]?:=hf 3 _ rfl
  simp only[cells_int,cells_i64,cells_str,List.drop_zero,List.drop_succ_cons,List.take_succ_cons,List.take_zero] at f0 f1 f2 f3
  match xs,hx with
  | [y0,y1,y2,y3],_=>
   simp only[List.getElem?_cons_zero,List.getElem?_cons_succ] at f0 f1 f2 f3
   obtain⟨k,e0,_,w0⟩:=DataW.trod_int underlying3 f0
   obtain⟨a,e1,_,w1⟩:=DataW.trod_int underlying2 f1
   obtain⟨b,e2,_,w2⟩:=DataW.trod_int underlying2 f2
   obtain⟨s,e3,rfl,w3⟩:=DataW.trod_string underlying9 f3
   refine⟨k,a,b,s,by simp_all,r64 w0,r64 w1,r64 w2,hs _ ?_⟩
   simp only[DataW.weights,underlying31,List.map_cons,List.map_nil,DataW.weightsEach,List.mem_append]
   right;right;right;left
   exact size_mem (H:=H) s
def VsOk(w:World)(x:Value):Prop:=x=.slice none 0 0∨∃(a:Addr) (len cap:Nat) (Q:Nat→Int×Int×Int×ByteArray),x=.slice (some a) len cap∧len≤cap∧cap*40≤reachBytes∧
 ∀i,i<cap→(∀j,j<4→w.cell? (a.add (i*4+j))=[I (Q i).1,I (Q i).2.1,I (Q i).2.2.1,Value.string (Q i).2.2.2][j]?)∧R64 (Q i).1∧R64 (Q i).2.1∧R64 (Q i).2.2.1∧(Q i).2.2.2.size≤reachBytes
def BsOk(w:World)(x:Value):Prop:=x=.slice none 0 0∨∃(a:Addr) (len cap:Nat) (f:Nat→Int),x=.slice (some a) len cap∧len≤cap∧cap≤reachBytes∧∀i,i<cap→w.cell? (a.add i)=some (.int .u8 (f i))∧0≤f i∧f i≤255
theorem small_all{e:TypeId}:∀{l:List (DataW H)} {d:DataW H},d∈l→∀n∈d.weights prog e,n∈DataW.weightsAll prog e l
 | x::r,d,hd,n,hn=>by
  rw[DataW.weightsAll,List.mem_append]
  rcases List.mem_cons.1 hd with rfl|h
  ·exact Or.inl hn
  ·exact Or.inr (small_all h n hn)
theorem small_elem{t e:TypeId}{elems spare:List (DataW H)}(hu:prog.underlying t=some (.slice e))(hs:Small t (.slice elems spare)){d:DataW H}(hd:d∈elems∨d∈spare):Small e d:=fun n hn=>hs n (by
 simp only[DataW.weights,hu,List.mem_cons,List.mem_append]
 rcases hd with hd|hd
 ·exact Or.inr (Or.inl (small_all hd n hn))
 ·exact Or.inr (Or.inr (small_all hd n hn)))
theorem small_len{t e:TypeId}{elems spare:List (DataW H)}(hu:prog.underlying t=some (.slice e))(hs:Small t (.slice elems spare)):(elems.length+spare.length)*prog.bytesOf e≤reachBytes:=
 hs _ (by simp only[DataW.weights,hu];exact List.mem_cons_self ..)
theorem small_at{t e:TypeId}{len m:Nat}{D:Nat→DataW H}(hu:prog.underlying t=some (.slice e))(hs:Small t (.slice ((List.range len).map D) ((List.range (m-len)).map fun j=>D (len+j)))){i:Nat}(hi:i<m):Small e (D i):=by
 refine small_elem hu hs ?_
 by_cases h:i<len
 ·exact Or.inl (List.mem_map.2 ⟨i,List.mem_range.2 h,rfl⟩)
 ·exact Or.inr (List.mem_map.2 ⟨i-len,List.mem_range.2 (by omega),by rw[show len+(i-len)=i by omega]⟩)
theorem open_vs{fuel:Nat}{c:Value}{x:DataW H×List MemPlace}(h:trodA enc w fuel 32 [c]=some x)(hs:Small 32 x.1):VsOk w c:=by
 rcases Go.Deep.open_slice underlying32 h with ⟨hc,rfl⟩|⟨a,len,cap,m,n,D,Pl,hc,_,hl,hm,rfl,rfl,hx⟩
 ·exact Or.inl (by simpa using hc)
 ·right
  have hlen:=small_len underlying32 hs
  rw[bytes_val] at hlen
  simp only[List.length_map,List.length_range] at hlen
  have each:∀i,i<m→∃q:Int×Int×Int×ByteArray,(∀j,j<4→w.cell? (a.add (i*4+j))=[I q.1,I q.2.1,I q.2.2.1,Value.string q.2.2.2][j]?)∧R64 q.1∧R64 q.2.1∧R64 q.2.2.1∧q.2.2.2.size≤reachBytes:=by
   intro i hi
   obtain⟨cs',h1,h2⟩:=hx i hi
   obtain⟨k,a',b,s,rfl,r1,r2,r3,r4⟩:=open_val h2 (small_at underlying32 hs hi)
   rw[cells_val] at h1
   obtain⟨_,_,hcell⟩:=World.cells?_some h1
   exact⟨(k,a',b,s),fun j hj=>by have:=hcell j hj;rwa [Go.Deep.add_add] at this,r1,r2,r3,r4⟩
  have:Inhabited (Int×Int×Int×ByteArray):=⟨(0,0,0,E0)⟩
  obtain⟨Q,hQ⟩:=Go.Deep.choose_lt each
  exact⟨a,len,m,Q,by simpa using hc,hl,by rw[show len+(m-len)=m by omega] at hlen;exact hlen,hQ⟩
theorem open_bs{fuel:Nat}{c:Value}{x:DataW H×List MemPlace}(h:trodA enc w fuel 33 [c]=some x)(hs:Small 33 x.1):BsOk w c:=by
 rcases Go.Deep.open_slice underlying33 h with ⟨hc,rfl⟩|⟨a,len,cap,m,n,D,Pl,hc,_,hl,hm,rfl,rfl,hx⟩
 ·exact Or.inl (by simpa using hc)
 ·right
  have hlen:=small_len underlying33 hs
  rw[bytes_u8] at hlen
  simp only[List.length_map,List.length_range] at hlen
  have each:∀i,i<m→∃q:Int,w.cell? (a.add i)=some (.int .u8 q)∧0≤q∧q≤255:=by
   intro i hi
   obtain⟨cs',h1,h2⟩:=hx i hi
   obtain⟨q,rfl,_,wq⟩:=DataW.trod_int underlying5 h2
   rw[cells_u8] at h1
   obtain⟨_,_,hcell⟩:=World.cells?_some h1
   have:=hcell 0 (by decide)
   rw[Go.Deep.add_add,Nat.mul_one,Nat.add_zero] at this
   exact⟨q,this,u8b wq⟩
  obtain⟨f,hf⟩:=Go.Deep.choose_lt each
  exact⟨a,len,m,f,by simpa using hc,hl,by omega,hf⟩
structure EntOk(w:World)(e:Ent):Prop where
 kind:R64 e.kind
 op:R64 e.op
 k:R64 e.k
 a:R64 e.a
 b:R64 e.b
 s:e.s.size≤reachBytes
 k':R64 e.k'
 a':R64 e.a'
 b':R64 e.b'
 s':e.s'.size≤reachBytes
 vs:VsOk w e.vs
 st:e.st.size≤reachBytes
 tt:e.tt.size≤reachBytes
 bb:BsOk w e.bb
 n:R64 e.n
 x:R64 e.x
 y:R64 e.y
 o1:R64 e.o1
 o2:R64 e.o2
theorem open_ent{fuel:Nat}{cs:List Value}{x:DataW H×List MemPlace}(h:trodA enc w fuel 35 cs=some x)(hs:Small 35 x.1):∃e:Ent,cs=e.L∧EntOk w e:=by
 obtain⟨xs,n,rfl,rfl,hl,hx,hf⟩:=DataW.trod_struct underlying35 h
 rw[cells_op] at hl
 match cs,hl with
 | [c0,c1,c2,c3,c4,c5,c6,c7,c8,c9,c10,c11,c12,c13,c14,c15,c16,c17,c18],_=>
  have f0:trodA enc w n 3 (([c0,c1,c2,c3,c4,c5,c6,c7,c8,c9,c10,c11,c12,c13,c14,c15,c16,c17,c18].drop 0).take (prog.cellsOf 3))=xs[0]?:=hf 0 _ rfl
  have f1:trodA enc w n 3 (([c0,c1,c2,c3,c4,c5,c6,c7,c8,c9,c10,c11,c12,c13,c14,c15,c16,c17,c18].drop 1).take (prog.cellsOf 3))=xs[1]?:=hf 1 _ rfl
  have f2:trodA enc w n 31 (([c0,c1,c2,c3,c4,c5,c6,c7,c8,c9,c10,c11,c12,c13,c14,c15,c16,c17,c18].drop 2).take (prog.cellsOf 31))=xs[2]?:=hf 2 _ rfl
  have f3:trodA enc w n 31 (([c0,c1,c2,c3,c4,c5,c6,c7,c8,c9,c10,c11,c12,c13,c14,c15,c16,c17,c18].drop 6).take (prog.cellsOf 31))=xs[3]?:=hf 3 _ rfl
  have f4:trodA enc w n 32 (([c0,c1,c2,c3,c4,c5,c6,c7,c8,c9,c10,c11,c12,c13,c14,c15,c16,c17,c18].drop 10).take (prog.cellsOf 32))=xs[4]?:=hf 4 _ rfl
  have f5:trodA enc w n 9 (([c0,c1,c2,c3,c4,c5,c6,c7,c8,c9,c10,c11,c12,c13,c14,c15,c16,c17,c18].drop 11).take (prog.cellsOf 9))=xs[5]?:=hf 5 _ rfl
  have f6:trodA enc w n 9 (([c0,c1,c2,c3,c4,c5,c6,c7,c8,c9,c10,c11,c12,c13,c14,c15,c16,c17,c18].drop 12).take (prog.cellsOf 9))=xs[6]?:=hf 6 _ rfl
  have f7:trodA enc w n 33 (([c0,c1,c2,c3,c4,c5,c6,c7,c8,c9,c10,c11,c12,c13,c14,c15,c16,c17,c18].drop 13).take (prog.cellsOf 33))=xs[7]?:=hf 7 _ rfl
  have f8:trodA enc w n 2 (([c0,c1,c2,c3,c4,c5,c6,c7,c8,c9,c10,c11,c12,c13,c14,c15,c16,c17,c18].drop 14).take (prog.cellsOf 2))=xs[8]?:=hf 8 _ rfl
  have f9:trodA enc w n 2 (([c0,c1,c2,c3,c4,c5,c6,c7,c8,c9,c10,c11,c12,c13,c14,c15,c16,c17,c18].drop 15).take (prog.cellsOf 2))=xs[9]?:=hf 9 _ rfl
  have f10:trodA enc w n 2 (([c0,c1,c2,c3,c4,c5,c6,c7,c8,c9,c10,c11,c12,c13,c14,c15,c16,c17,c18].drop 16).take (prog.cellsOf 2))=xs[10]?:=hf 10 _ rfl
  have f11:trodA enc w n 3 (([c0,c1,c2,c3,c4,c5,c6,c7,c8,c9,c10,c11,c12,c13,c14,c15,c16,c17,c18].drop 17).take (prog.cellsOf 3))=xs[11]?:=hf 11 _ rfl
  have f12:trodA enc w n 3 (([c0,c1,c2,c3,c4,c5,c6,c7,c8,c9,c10,c11,c12,c13,c14,c15,c16,c17,c18].drop 18).take (prog.cellsOf 3))=xs[12]?:=hf 12 _ rfl
  simp only[cells_int,cells_i64,cells_str,cells_val,cells_vs,cells_bs,List.drop_zero,List.drop_succ_cons,List.take_succ_cons,List.take_zero] at f0 f1 f2 f3 f4 f5 f6 f7 f8 f9 f10 f11 f12
  match xs,hx with
  | [y0,y1,y2,y3,y4,y5,y6,y7,y8,y9,y10,y11,y12],_=>
   simp only[List.getElem?_cons_zero,List.getElem?_cons_succ] at f0 f1 f2 f3 f4 f5 f6 f7 f8 f9 f10 f11 f12
   have hw:∀n,n∈DataW.weightsEach prog [3,3,31,31,32,9,9,33,2,2,2,3,3] [y0.1,y1.1,y2.1,y3.1,y4.1,y5.1,y6.1,y7.1,y8.1,y9.1,y10.1,y11.1,y12.1]→n≤reachBytes:=fun n hn=>hs n (by
    simp only[DataW.weights,underlying35]
    exact hn)
   have sm:∀(j:Nat) t d,[3,3,31,31,32,9,9,33,2,2,2,3,3][j]?=some t→[y0.1,y1.1,y2.1,y3.1,y4.1,y5.1,y6.1,y7.1,y8.1,y9.1,y10.1,y11.1,y12.1][j]?=some d→Small t d:=fun j t d ht hd n hn=>hw n (DataW.weights_mem_each ht hd n hn)
   obtain⟨kind,e0,_,w0⟩:=DataW.trod_int underlying3 f0
   obtain⟨op,e1,_,w1⟩:=DataW.trod_int underlying3 f1
   obtain⟨k,a,b,s,e2,w2,w3,w4,w5⟩:=open_val f2 (sm 2 _ _ rfl rfl)
   obtain⟨k',a',b',s',e3,w6,w7,w8,w9⟩:=open_val f3 (sm 3 _ _ rfl rfl)
   have w10:=open_vs f4 (sm 4 _ _ rfl rfl)
   have z5:=sm 5 _ _ rfl rfl
   have z6:=sm 6 _ _ rfl rfl
   obtain⟨st,e5,q5,_⟩:=DataW.trod_string underlying9 f5
   obtain⟨tt,e6,q6,_⟩:=DataW.trod_string underlying9 f6
   rw[q5] at z5
   rw[q6] at z6
   have w11:st.size≤reachBytes:=z5 _ (by exact size_mem _)
   have w12:tt.size≤reachBytes:=z6 _ (by exact size_mem _)
   have w13:=open_bs f7 (sm 7 _ _ rfl rfl)
   obtain⟨n1,e8,_,w14⟩:=DataW.trod_int underlying2 f8
   obtain⟨n2,e9,_,w15⟩:=DataW.trod_int underlying2 f9
   obtain⟨n3,e10,_,w16⟩:=DataW.trod_int underlying2 f10
   obtain⟨n4,e11,_,w17⟩:=DataW.trod_int underlying3 f11
   obtain⟨n5,e12,_,w18⟩:=DataW.trod_int underlying3 f12
   refine⟨⟨kind,op,k,a,b,s,k',a',b',s',c10,st,tt,c13,n1,n2,n3,n4,n5⟩,?_,⟨r64 w0,r64 w1,w2,w3,w4,w5,w6,w7,w8,w9,w10,w11,w12,w13,r64 w14,r64 w15,r64 w16,r64 w17,r64 w18⟩⟩
   simp only[List.cons.injEq,and_true] at e0 e1 e2 e3 e5 e6 e8 e9 e10 e11 e12
   obtain⟨rfl,rfl,rfl,rfl⟩:=e2
   obtain⟨rfl,rfl,rfl,rfl⟩:=e3
   rw[e0,e1,e5,e6,e8,e9,e10,e11,e12]
theorem open_script{b0:Nat}{v:Value}{d:DataW H}{ps:List MemPlace}(hval:Value.okWide prog w .any b0 22 v)(h:DataW.Trod enc prog w 0 (fun _=>true) true 22 v d ps)(hs:Small 22 d) :
  v=.slice none 0 0∨∃(b off n cap:Nat) (E:Nat→Ent),v=.slice (some ⟨b,off,none⟩) n cap∧n≤cap∧cap*216≤reachBytes∧Ents w b off n E∧∀i,i<n→EntOk w (E i):=by
 obtain⟨a0,len0,cap0,rfl⟩:=okWide_slice underlying22 hval
 obtain⟨fuel,hf⟩:=h
 rcases Go.Deep.open_slice underlying22 hf with ⟨hc,_⟩|⟨a,len,cap,m,n,D,Pl,hc,_,hl,hm,rfl,hx',hx⟩
 ·exact Or.inl (by simpa [Value.cells] using hc)
 ·right
  simp only[Prod.mk.injEq] at hx'
  obtain⟨rfl,_⟩:=hx'
  have hlen:=small_len underlying22 hs
  rw[bytes_op] at hlen
  simp only[List.length_map,List.length_range] at hlen
  have hv:Value.slice a0 len0 cap0=.slice (some a) len m:=by simpa [Value.cells] using hc
  rw[hv] at hval⊢
  have hspot:a.spot=none:=by
   unfold Value.okWide at hval
   simp only[underlying22] at hval
   unfold Cell.okWide at hval
   simp only[underlying22] at hval
   unfold Cell.ok at hval
   simp only[underlying22] at hval
   exact hval.2.2.2.1
  obtain⟨ab,ao,asp⟩:=a
  simp only at hspot
  subst hspot
  have each:∀i,i<len→∃e:Ent,w.rangeAt ab (ao+i*19) e.L∧EntOk w e:=by
   intro i hi
   obtain⟨cs',h1,h2⟩:=hx i (by omega)
   obtain⟨e,rfl,he⟩:=open_ent h2 (small_at underlying22 hs (by omega))
   rw[cells_op] at h1
   obtain⟨_,_,hcell⟩:=World.cells?_some h1
   refine⟨e,fun j v hv=>?_,he⟩
   have hj:j<19:=(List.getElem?_eq_some_iff.1 hv).1
   have:=hcell j hj
   rw[Go.Deep.add_add,Addr.add_mid] at this
   rw[Nat.add_assoc,this];exact hv
  have:Inhabited Ent:=⟨⟨0,0,0,0,0,E0,0,0,0,E0,.slice none 0 0,E0,E0,.slice none 0 0,0,0,0,0,0⟩⟩
  obtain⟨E,hE⟩:=Go.Deep.choose_lt each
  exact⟨ab,ao,len,m,E,rfl,hl,by rw[show len+(m-len)=m by omega] at hlen;exact hlen,fun i hi=>(hE i hi).1,fun i hi=>(hE i hi).2⟩
end
end
section
open Go.RowKit
theorem forms_plays(W:World)(hT:Tabs W)(e:Ent)(h:EntOk W e)(h1:1≤e.kind)(h2:e.kind≤1)(w':World)(g:G W w'):Calls prog 7 #[e.V] w' fun r w''=>r=.returned (.bool true)∧G w' w'':=
 plays_1 e (by omega) (by have:=h.s;unfold reachBytes at this;omega) w' (hT.G g)
end
section
def I64(n:Int):Prop:=-9223372036854775808≤n∧n≤9223372036854775807
end
section
open Go.RowKit
attribute [local go_sem] as_whole_null as_whole_str as_whole_whole as_cpx_null as_cpx_str as_cpx_whole as_truth_null as_str_null as_node_null as_edge_null as_null_null
abbrev IW(n:Int):Value:=.iface 135 (.int .i64 n)
theorem addWhole_ok(a b:Int)(h:I64 (a+b))(w:World):Calls prog 154 #[.int .i64 a,.int .i64 b] w fun e w'=>e=.returned (.tuple #[IW (a+b),.int .i64 0])∧w'=w:=by
 obtain⟨h1,h2⟩:=h
 by_cases c:0<b
 ·have c1:a<a+b:=by omega
  go_enter func154,ntmps154
  go_wp2
  go_ret2
  exact⟨rfl,rfl⟩
 ·have c1:¬a<a+b:=by omega
  go_enter func154,ntmps154
  go_wp2
  go_ret2
  exact⟨rfl,rfl⟩
theorem subWhole_ok(a b:Int)(h:I64 (a-b))(w:World):Calls prog 155 #[.int .i64 a,.int .i64 b] w fun e w'=>e=.returned (.tuple #[IW (a-b),.int .i64 0])∧w'=w:=by
 obtain⟨h1,h2⟩:=h
 by_cases c:0<b
 ·have c1:a-b<a:=by omega
  go_enter func155,ntmps155
  go_wp2
  go_ret2
  exact⟨rfl,rfl⟩
 ·have c1:¬a-b<a:=by omega
  go_enter func155,ntmps155
  go_wp2
  go_ret2
  exact⟨rfl,rfl⟩
theorem tdiv_back(a b:Int)(h:a≠0):(a*b).tdiv a=b:=Int.mul_tdiv_cancel_left b h
theorem mulWhole_ok(a b:Int)(h:I64 (a*b))(hb:I64 b)(w:World):Calls prog 156 #[.int .i64 a,.int .i64 b] w fun e w'=>e=.returned (.tuple #[IW (a*b),.int .i64 0])∧w'=w:=by
 obtain⟨h1,h2⟩:=h
 obtain⟨h3,h4⟩:=hb
 by_cases c:a=0
 ·subst c
  go_enter func156,ntmps156
  go_wp2
  go_ret2
  exact⟨by simp,rfl⟩
 ·have z:(a==0)=false:=by simpa using c
  have d:=tdiv_back a b c
  have hw:wrap64 (a*b)=a*b:=by unfold wrap64;omega
  have hw2:wrap64 b=b:=by unfold wrap64;omega
  by_cases c2:a = -1
  ·have n:(b==-9223372036854775808)=false:=by subst c2;simp;omega
   subst c2
   go_enter func156,ntmps156
   go_wp2
   go_ret2
   exact⟨by simp,rfl⟩
  ·have n:(a==-1)=false:=by simpa using c2
   go_enter func156,ntmps156
   go_wp2
   go_ret2
   exact⟨rfl,rfl⟩
theorem wa_add(a b:Int)(h:I64 (a+b))(w:World):Calls prog 122 #[.int .i64 1,.int .i64 a,.int .i64 b] w fun e w'=>e=.returned (.tuple #[IW (a+b),.int .i64 0])∧G w w':=by
 have H:Hid (I64 (a+b)):=h
 clear h
 go_enter func122,ntmps122
 go_wp2_with fail
 refine(addWhole_ok a b H.out _).mono ?_
 rintro e w1 ⟨rfl,rfl⟩
 go_wp2
 go_ret2
 exact⟨rfl,G.refl _⟩
theorem wa_sub(a b:Int)(h:I64 (a-b))(w:World):Calls prog 122 #[.int .i64 2,.int .i64 a,.int .i64 b] w fun e w'=>e=.returned (.tuple #[IW (a-b),.int .i64 0])∧G w w':=by
 have H:Hid (I64 (a-b)):=h
 clear h
 go_enter func122,ntmps122
 go_wp2_with fail
 refine(subWhole_ok a b H.out _).mono ?_
 rintro e w1 ⟨rfl,rfl⟩
 go_wp2
 go_ret2
 exact⟨rfl,G.refl _⟩
theorem wa_mul(a b:Int)(h:I64 (a*b))(hb:I64 b)(w:World):Calls prog 122 #[.int .i64 3,.int .i64 a,.int .i64 b] w fun e w'=>e=.returned (.tuple #[IW (a*b),.int .i64 0])∧G w w':=by
 have H:Hid (I64 (a*b)):=h
 clear h
 go_enter func122,ntmps122
 go_wp2_with fail
 refine(mulWhole_ok a b H.out hb _).mono ?_
 rintro e w1 ⟨rfl,rfl⟩
 go_wp2
 go_ret2
 exact⟨rfl,G.refl _⟩
theorem arith_ww(op a b:Int)(r:Value)(c:Int)(h:∀w,Calls prog 122 #[.int .i64 op,.int .i64 a,.int .i64 b] w fun e w'=>e=.returned (.tuple #[r,.int .i64 c])∧G w w')(w:World) :
  Calls prog 88 #[.int .i64 op,IW a,IW b] w fun e w'=>e=.returned (.tuple #[r,.int .i64 c])∧G w w':=by
 have H:Hid _:=h
 clear h
 go_enter func88,ntmps88
 go_wp2_with fail
 refine(H.out _).mono ?_
 rintro e w1 ⟨rfl,hb1⟩
 go_wp2
 go_ret2
 exact⟨rfl,hb1⟩
theorem binary_arith(op:Int)(ho:1≤op)(ho':op≤5)(x y r:Value)(c:Int)(hx:∀w,Calls prog 83 #[x] w fun e w'=>e=.returned (.bool false)∧G w w')(hy:∀w,Calls prog 83 #[y] w fun e w'=>e=.returned (.bool false)∧G w w')
  (h:∀w,Calls prog 88 #[.int .i64 op,x,y] w fun e w'=>e=.returned (.tuple #[r,.int .i64 c])∧G w w') (w:World) :
  Calls prog 41 #[.int .i64 op,x,y] w fun e w'=>e=.returned (.tuple #[r,.int .i64 c])∧G w w':=by
 have H:Hid _:=h;have HX:Hid _:=hx;have HY:Hid _:=hy
 clear h hx hy
 have n12:(op==12)=false:=by simp;omega
 have n13:(op==13)=false:=by simp;omega
 have n14:(op==14)=false:=by simp;omega
 have n6:(op==6)=false:=by simp;omega
 have n7:(op==7)=false:=by simp;omega
 have n8:(op==8)=false:=by simp;omega
 have n9:(op==9)=false:=by simp;omega
 have n10:(op==10)=false:=by simp;omega
 have n11:(op==11)=false:=by simp;omega
 have n15:(op==15)=false:=by simp;omega
 have n17:(op==17)=false:=by simp;omega
 have n18:(op==18)=false:=by simp;omega
 have n16:(op==16)=false:=by simp;omega
 go_enter func41,ntmps41
 go_wp2_with fail
 refine(HX.out _).mono ?_
 rintro e w1 ⟨rfl,hb1⟩
 go_wp2_with fail
 refine(HY.out _).mono ?_
 rintro e w2 ⟨rfl,hb2⟩
 go_wp2_with fail
 refine(H.out _).mono ?_
 rintro e w3 ⟨rfl,hb3⟩
 go_wp2
 go_ret2
 exact⟨rfl,hb1.trans (hb2.trans hb3)⟩
end
section
open Go.RowKit
theorem addWhole_no(a b:Int)(ha:I64 a)(hb:I64 b)(h:¬I64 (a+b))(w:World):Calls prog 154 #[.int .i64 a,.int .i64 b] w fun e w'=>e=.returned (.tuple #[.nilIface,.int .i64 11])∧w'=w:=by
 obtain⟨a1,a2⟩:=ha;obtain⟨b1,b2⟩:=hb
 unfold I64 at h
 by_cases c:0<b
 ·have hw:wrap64 (a+b)=a+b-18446744073709551616:=by unfold wrap64;omega
  have c1:¬a<a+b-18446744073709551616:=by omega
  clear h
  go_enter func154,ntmps154
  go_wp2
  go_ret2
  exact⟨rfl,rfl⟩
 ·have hw:wrap64 (a+b)=a+b+18446744073709551616:=by unfold wrap64;omega
  have c1:a<a+b+18446744073709551616:=by omega
  clear h
  go_enter func154,ntmps154
  go_wp2
  go_ret2
  exact⟨rfl,rfl⟩
theorem subWhole_no(a b:Int)(ha:I64 a)(hb:I64 b)(h:¬I64 (a-b))(w:World):Calls prog 155 #[.int .i64 a,.int .i64 b] w fun e w'=>e=.returned (.tuple #[.nilIface,.int .i64 11])∧w'=w:=by
 obtain⟨a1,a2⟩:=ha;obtain⟨b1,b2⟩:=hb
 unfold I64 at h
 by_cases c:0<b
 ·have hw:wrap64 (a-b)=a-b+18446744073709551616:=by unfold wrap64;omega
  have c1:¬a-b+18446744073709551616<a:=by omega
  clear h
  go_enter func155,ntmps155
  go_wp2
  go_ret2
  exact⟨rfl,rfl⟩
 ·have hw:wrap64 (a-b)=a-b-18446744073709551616:=by unfold wrap64;omega
  have c1:a-b-18446744073709551616<a:=by omega
  clear h
  go_enter func155,ntmps155
  go_wp2
  go_ret2
  exact⟨rfl,rfl⟩
theorem wrap_mod(n:Int):∃k:Int,wrap64 n=n+18446744073709551616*k∧I64 (wrap64 n):=by
 refine⟨-((n+9223372036854775808)/18446744073709551616),?_,?_,?_⟩<;>unfold wrap64<;>omega
theorem no_back(a b:Int)(ha:I64 a)(ha0:a≠0)(hm1:a≠-1)(h:¬I64 (a*b)):(wrap64 (a*b)).tdiv a≠b:=by
 intro e
 obtain⟨k,hk,hi⟩:=wrap_mod (a*b)
 have h1:=Int.mul_tdiv_add_tmod (wrap64 (a*b)) a
 rw[e] at h1
 have h2:((wrap64 (a*b)).tmod a).natAbs<a.natAbs:=by
  rw[Int.natAbs_tmod]
  exact Nat.mod_lt _ (by omega)
 have h3:a.natAbs≤9223372036854775808:=by obtain⟨x,y⟩:=ha;omega
 have h4:(wrap64 (a*b)).tmod a=18446744073709551616*k:=by omega
 have hk0:k=0:=by omega
 rw[hk0] at hk
 rw[hk] at hi
 exact h (by simpa using hi)
theorem div_bd(p a:Int)(hp:I64 p)(ha0:a≠0)(hm1:a≠-1):I64 (p.tdiv a):=by
 obtain⟨h1,h2⟩:=hp
 have hn:(p.tdiv a).natAbs=p.natAbs/a.natAbs:=Int.natAbs_tdiv _ _
 by_cases h3:a=1
 ·subst h3
  rw[Int.tdiv_one];exact⟨h1,h2⟩
 ·have h4:2≤a.natAbs:=by omega
  have h5:p.natAbs/a.natAbs≤p.natAbs/2:=Nat.div_le_div_left h4 (by decide)
  unfold I64;omega
theorem mulWhole_no(a b:Int)(ha:I64 a)(hb:I64 b)(h:¬I64 (a*b))(w:World):Calls prog 156 #[.int .i64 a,.int .i64 b] w fun e w'=>e=.returned (.tuple #[.nilIface,.int .i64 11])∧w'=w:=by
 have a0:a≠0:=fun e=>h (by rw[e,Int.zero_mul];unfold I64;omega)
 have z:(a==0)=false:=by simpa using a0
 by_cases c:a = -1
 ·subst c
  have e:b = -9223372036854775808:=by unfold I64 at *;omega
  subst e
  clear h ha hb
  have hw:wrap64 9223372036854775808 = -9223372036854775808:=by unfold wrap64;omega
  go_enter func156,ntmps156
  go_wp2
  go_ret2
  exact⟨rfl,rfl⟩
 ·have n:=no_back a b ha a0 c h
  obtain⟨_,-,hi⟩:=wrap_mod (a*b)
  have hd:=div_bd (wrap64 (a*b)) a hi a0 c
  obtain⟨i1,i2⟩:=hi
  obtain⟨d1,d2⟩:=hd
  have hw2:wrap64 ((wrap64 (a*b)).tdiv a)=(wrap64 (a*b)).tdiv a:=by unfold wrap64 at *;omega
  have n':((wrap64 (a*b)).tdiv a==b)=false:=by simpa using n
  have m1:(a==-1)=false:=by simpa using c
  clear h ha hb
  go_enter func156,ntmps156
  go_wp2
  go_ret2
  exact⟨rfl,rfl⟩
end
end Go.Proofs.YthmdjhfbhbheeaaGreatDoor
