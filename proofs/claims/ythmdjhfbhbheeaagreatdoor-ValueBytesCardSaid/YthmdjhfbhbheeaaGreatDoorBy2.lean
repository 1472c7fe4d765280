import Derived.Deep.MidRow
import Derived.Laws.AppendOwn
import Derived.OwnWalk
import Derived.Deep.QuietTactic
import Derived.BigQuiet
import Derived.Test.YthmdjhfbhbheeaaGreatDoorFold11
import Derived.Test.YthmdjhfbhbheeaaGreatDoorNam6
namespace Go.Proofs.YthmdjhfbhbheeaaGreatDoor
open Go.Proofs.Tryz
set_option maxHeartbeats 8000000
set_option maxRecDepth 100000
section
open Go.RowKit Go.PlainAid Go.Lib Go.Shelf
theorem zK2(c:Nat)(l:List Nat):encS (c::l)=(if c=0 then [0,255] else [c])++encS l:=by unfold encS;rw[List.flatMap_cons]
def zPx(s:ByteArray):List Nat:=(List.range s.size).map fun k=>(bt s k).toNat
theorem zIb(k a b:Int)(s:ByteArray):encV k a b s=if k=0 then [80] else if k=1 then [48,a.toNat] else if k=2 then encW a++[0] else if k=3 then(encW a++[1])++encW b else if k=4 then(32::encS (zPx s))++[0,0] else if k=5 then 16::encW a else 17::encW a:=rfl
theorem zMB(s:ByteArray):(zPx s).length=s.size:=by simp[zPx]
theorem zJp(k a b:Int)(s:ByteArray)(h:okV k a b s=true)(ha:R64 a)(hb:R64 b):(encV k a b s).length≤4096:=by
 have h1:=zBF a ha.1 ha.2;have h2:=zBF b hb.1 hb.2;rw[zIb]
 by_cases c4:k=4
 ·subst c4
  have h3:=(ok_4 h).2.2.1
  have:∀l:List Nat,(encS l).length≤2*l.length:=fun l=>by
   induction l with
   | nil=>simp[encS]
   | cons c l ih=>
    rw[zK2,List.length_append,List.length_cons]
    split<;>simp<;>omega
  have h4:=this (zPx s);rw[zMB] at h4
  simp;omega
 ·by_cases c0:k=0
  ·rw[if_pos c0];simp
  rw[if_neg c0]
  by_cases c1:k=1
  ·rw[if_pos c1];simp
  rw[if_neg c1]
  by_cases c2:k=2
  ·rw[if_pos c2];simp;omega
  rw[if_neg c2]
  by_cases c3:k=3
  ·rw[if_pos c3];simp;omega
  rw[if_neg c3,if_neg c4]
  by_cases c5:k=5
  ·rw[if_pos c5];simp;omega
  ·rw[if_neg c5];simp;omega
theorem zP6(k a b:Int)(s:ByteArray)(hs:s.size≤4611686018427387904)(ha:R64 a)(hb:R64 b):∃(xs:List Nat) (c:Int),xs.length≤1073741824∧(∀w,Tabs w→Calls prog 8 #[V k a b s] w fun e w'=>∃x,e=.returned (.tuple #[x,.int .i64 c])∧G w w'∧RowB w' x xs)∧(∀w,Calls prog 9 #[V k a b s] w fun e w'=>∃x,e=.returned (.tuple #[x,.int .i64 c])∧G w w'∧RowB w' x xs):=by
 cases h:okV k a b s with
 | true=>exact⟨encV k a b s,0,Nat.le_trans (zJp k a b s h ha hb) (by decide),fun w hT=>(zNB k a b s h _ (zDv k a b s h ha) w hT).mono fun e w' ⟨x,he,hb⟩=>⟨x,he,hb.g,hb.row⟩,fun w=>(zFQ k a b s hs h ha w).mono fun e w' ⟨x,he,hb⟩=>⟨x,he,hb.g,hb.row⟩⟩
 | false=>exact⟨[],16,Nat.zero_le _,fun w hT=>(zRm k a b s h w hT).mono fun e w' ⟨he,hb⟩=>⟨_,he,hb,⟨none,0,rfl,Nat.le_refl _,fun i d hi=>by simp at hi⟩⟩,fun w=>(zL3 k a b s hs h w).mono fun e w' ⟨he,hb⟩=>⟨_,he,hb,⟨none,0,rfl,Nat.le_refl _,fun i d hi=>by simp at hi⟩⟩⟩
theorem zS4(e:Ent)(kk:e.kind=8)(hs:e.s.size≤4611686018427387904)(ha:R64 e.a)(hb:R64 e.b)(w:World)(hT:Tabs w):CG 7 #[e.V] w (.bool true):=by
 obtain⟨kind,op,k,a,b,s,k',a',b',s',vs,st,tt,bb,n,x,y,o1,o2⟩:=e;simp only at kk hs ha hb;subst kk;obtain⟨xs,c,hx,h1,h2⟩:=zP6 k a b s hs ha hb;have H1:=hide h1;have H2:=hide h2;have HT:=hide hT;have HXL:=hide hx;clear h1 h2 hT hx
 go_enter func7,ntmps7
 go_wp2_with fail
 refine(H1.out _ (HT.out.G ((G.refl w).alloc _))).mono ?_;rintro e w1 ⟨x1,rfl,hb1,hr1⟩;have hc1:∀o,w1.cell? {block:=w.heap.size,off:=o}=[I 8,I op,I k,I a,I b,.string s,I k',I a',I b',.string s',vs,.string st,.string tt,bb,I n,I x,I y,I o1,I o2][o]?:=G.cells hb1 (by simp) (by simp);have HG1:Hid (G w w1):=G.trans ((G.refl w).alloc _) hb1;have HR1:=hide hr1;clear hb1 hr1
 go_wp2_with fail
 refine(H2.out _).mono ?_;rintro e w2 ⟨x2,rfl,hb2,hr2⟩;have HSM:=hide (zD8 x1 x2 xs w2 (HR1.out.G hb2) hr2 HXL.out);have HG2:Hid (G w w2):=HG1.out.trans hb2;clear hb2 hr2 hc1
 go_wp2_with fail
 refine HSM.out.mono ?_;rintro e w3 ⟨rfl,hb3⟩;have HG3:=hide (HG2.out.trans hb3);clear hb3 HSM
 go_wp2
 go_ret;exact⟨rfl,HG3.out⟩
def RdyA(w:World):Prop:=RdyB w∧Env w
theorem RdyA.G{w w':World}(h:RdyA w)(g:G w w'):RdyA w':=⟨h.1.G g,h.2.G g⟩
theorem zN6(W:World)(hT:RdyA W)(e:Ent)(h:zDn W e)(h1:1≤e.kind)(h2:e.kind≤14)(w':World)(g:G W w'):Calls prog 7 #[e.V] w' fun r w''=>r=.returned (.bool true)∧G w' w'':=by
 have hR:Rdy W:=⟨hT.1.1,hT.1.2.1⟩
 by_cases e1:e.kind=1
 ·exact zH5 W hT.1.1 e h (by omega) (by omega) w' g
 by_cases e2:e.kind=2
 ·exact zHo W hT.1.1 e h (by omega) (by omega) w' g
 by_cases e3:e.kind=3
 ·exact zG6 W hT.1 e h (by omega) (by omega) w' g
 by_cases e4:e.kind=4
 ·exact zGc W hR e h (by omega) (by omega) w' g
 by_cases e5:e.kind=5
 ·exact zK0 W hR e h (by omega) (by omega) w' g
 by_cases e6:e.kind≤7
 ·exact zHs W hT.2 e h (by omega) (by omega) w' g
 by_cases e8:e.kind=8
 ·exact zS4 e e8 (by have:=h.s;unfold reachBytes at this;omega) h.a h.b w' (hT.1.1.G g)
 by_cases e9:e.kind=9
 ·exact zGZ W hT.1.1 e h (by omega) (by omega) w' g
 by_cases e10:e.kind≤11
 ·exact zHS W hT.1.1 e h (by omega) (by omega) w' g
 exact zHX W hT.1.1 e h (by omega) (by omega) w' g
end
section
open Go.RowKit
structure Chg(F:Nat→Prop)(w w':World):Prop where
 os:w'.os=w.os
 tape:w'.tape=w.tape
 output:w'.output=w.output
 size:w.heap.size≤w'.heap.size
 block:∀k,k<w.heap.size→¬F k→w'.heap[k]?=w.heap[k]?
theorem Chg.refl(F:Nat→Prop)(w:World):Chg F w w:=⟨rfl,rfl,rfl,Nat.le_refl _,fun _ _ _=>rfl⟩
theorem Chg.trans{F:Nat→Prop}{a b c:World}(h:Chg F a b)(k:Chg F b c):Chg F a c:=
 ⟨k.os.trans h.os,k.tape.trans h.tape,k.output.trans h.output,Nat.le_trans h.size k.size,fun i hi hn=>(k.block i (Nat.lt_of_lt_of_le hi h.size) hn).trans (h.block i hi hn)⟩
theorem Chg.more{F F':Nat→Prop}{a b c:World}(h:Chg F a b)(k:Chg F' b c)(hF:∀i,i<a.heap.size→F' i→F i):Chg F a c:=
 ⟨k.os.trans h.os,k.tape.trans h.tape,k.output.trans h.output,Nat.le_trans h.size k.size,fun i hi hn=>(k.block i (Nat.lt_of_lt_of_le hi h.size) (fun x=>hn (hF i hi x))).trans (h.block i hi hn)⟩
theorem Chg.mono{F F':Nat→Prop}{a b:World}(h:Chg F a b)(hF:∀i,F i→F' i):Chg F' a b:=⟨h.os,h.tape,h.output,h.size,fun i hi hn=>h.block i hi (fun x=>hn (hF i x))⟩
theorem Chg.G{F:Nat→Prop}{a b:World}(h:Chg F a b)(hF:∀i,F i→a.heap.size≤i):G a b:=⟨h.os,h.tape,h.output,h.size,fun k hk=>h.block k hk (fun x=>by have:=hF k x;omega)⟩
theorem G.chg{F:Nat→Prop}{a b:World}(h:Go.Proofs.YthmdjhfbhbheeaaGreatDoor.G a b):Chg F a b:=⟨h.os,h.tape,h.output,h.size,fun k hk _=>h.block k hk⟩
theorem zBp{F:Nat→Prop}{b o:Nat}(w:World)(v:Value)(hb:F b∨w.heap.size≤b):Chg F w (w.setCell ⟨b,o,none⟩ v):=
 ⟨rfl,rfl,rfl,by simp,fun k hk hn=>Below.heap_setCell _ _ _ _ (fun e=>by subst e;rcases hb with h|h;exact hn h;exact absurd hk (Nat.not_lt.2 h))⟩
structure Blk(w:World)(g:Nat)(e:TypeId)(xs:List Value):Prop where
 h:w.heap[g]?=some (.cells xs.toArray e (0,0))
theorem Blk.lt{w:World}{g:Nat}{e:TypeId}{xs:List Value}(h:Blk w g e xs):g<w.heap.size:=(Array.getElem?_eq_some_iff.1 h.h).1
theorem Blk.cell{w:World}{g:Nat}{e:TypeId}{xs:List Value}(h:Blk w g e xs):∀o,w.cell? ⟨g,o,none⟩=xs[o]?:=fun o=>by
 simp[World.cell?,h.h]
theorem Blk.frozen{w:World}{g:Nat}{e:TypeId}{xs:List Value}(h:Blk w g e xs):∀o,w.frozen? ⟨g,o,none⟩=false:=fun o=>by
 simp[World.frozen?,h.h]
theorem Blk.keep{w w':World}{g:Nat}{e:TypeId}{xs:List Value}(h:Blk w g e xs)(hb:w'.heap[g]?=w.heap[g]?):Blk w' g e xs:=⟨hb.trans h.h⟩
theorem Blk.G{w w':World}{g:Nat}{e:TypeId}{xs:List Value}(h:Blk w g e xs)(k:Go.Proofs.YthmdjhfbhbheeaaGreatDoor.G w w'):Blk w' g e xs:=h.keep (k.block g h.lt)
theorem Blk.chg{F:Nat→Prop}{w w':World}{g:Nat}{e:TypeId}{xs:List Value}(h:Blk w g e xs)(k:Chg F w w')(hF:¬F g):Blk w' g e xs:=h.keep (k.block g h.lt hF)
theorem Blk.new(w:World)(xs:List Value)(e:TypeId):Blk (w.alloc (.cells xs.toArray e)) w.heap.size e xs:=⟨heap_alloc_new w _⟩
theorem Blk.set{w:World}{g:Nat}{e:TypeId}{xs:List Value}(h:Blk w g e xs)(o:Nat)(v:Value):Blk (w.setCell ⟨g,o,none⟩ v) g e (xs.set o v):=by
 exact⟨by simp[World.setCell,Array.getElem?_modify,h.h]⟩
theorem Blk.sets{g:Nat}{e:TypeId}:∀(vs:List Value) {w:World} {xs:List Value} (_:Blk w g e xs) (o:Nat) (_:o+vs.length≤xs.length),Blk (w.setCells g o vs) g e (xs.take o++vs++xs.drop (o+vs.length))
 | [],w,xs,h,o,_=>by simpa [World.setCells] using h
 | v::vs,w,xs,h,o,hl=>by
  rw[World.setCells];have h1:=Blk.sets vs (h.set o v) (o+1) (by simp at hl ⊢;omega)
  have e1:(xs.set o v).take (o+1)++vs++(xs.set o v).drop (o+1+vs.length)=xs.take o++(v::vs)++xs.drop (o+(v::vs).length):=by
   have hlt:o<xs.length:=by simp at hl;omega
   apply List.ext_getElem?;intro j;simp only[List.length_cons]
   by_cases c1:j<o
   ·rw[List.append_assoc,List.getElem?_append_left (by simp;omega),List.append_assoc,List.getElem?_append_left (by simp;omega)]
    rw[List.getElem?_take,List.getElem?_take,if_pos (by omega),if_pos c1,List.getElem?_set_ne (by omega)]
   ·by_cases c2:j=o
    ·subst c2
     rw[List.append_assoc,List.getElem?_append_left (by simp;omega),List.getElem?_take,if_pos (by omega),List.getElem?_set_self hlt];rw[List.append_assoc,List.getElem?_append_right (by simp;omega)];simp[Nat.min_eq_left (Nat.le_of_lt hlt)]
    ·by_cases c3:j<o+1+vs.length
     ·rw[List.append_assoc,List.getElem?_append_right (by simp;omega),List.getElem?_append_left (by simp at hl ⊢;omega)]
      rw[List.append_assoc,List.getElem?_append_right (by simp;omega),List.getElem?_append_left (by simp;omega)]
      have:(xs.take o).length=o:=by simp;omega
      have h2:((xs.set o v).take (o+1)).length=o+1:=by simp;omega
      rw[this,h2,show j-o=(j-(o+1))+1 by omega,List.getElem?_cons_succ]
     ·have h2:((xs.set o v).take (o+1)++vs).length=o+1+vs.length:=by simp;omega
      have h3:(xs.take o++v::vs).length=o+1+vs.length:=by simp;omega
      rw[List.getElem?_append_right (by omega),List.getElem?_append_right (by omega),h2,h3,List.getElem?_drop,List.getElem?_drop,List.getElem?_set_ne (by omega),show o+(vs.length+1)=o+1+vs.length by omega]
  rw[e1] at h1;exact h1
theorem Blk.there{w:World}{g:Nat}{e:TypeId}{xs:List Value}(h:Blk w g e xs)(o n:Nat)(hl:o+n≤xs.length):w.there g o n:=fun j hj=>⟨by rw[h.cell,List.getElem?_eq_getElem (by omega)];rfl,h.frozen _⟩
theorem Blk.drew{w:World}{g:Nat}{e:TypeId}{xs:List Value}(h:Blk w g e xs):Blk w.drew g e xs:=⟨h.h⟩
theorem Blk.ne{w:World}{g g':Nat}{e e':TypeId}{xs xs':List Value}(h:Blk w g e xs)(h':Blk w g' e' xs')(hne:e≠e'):g≠g':=fun he=>by
 subst he;have h1:=h.h;rw[h'.h] at h1;simp at h1;exact hne h1.2.symm
theorem zDV{w:World}{b e s n g:Nat}{v:Value}{xs:List Value}{e':TypeId}{ys:List Value}(h:w.ownsRow b e s v n xs)(h':Blk w g e' ys)(hne:e≠e'):v.ownBlock≠some g:=by
 rcases h.2 with ⟨rfl,_⟩|⟨g',cap,cur,rfl,_,hg,_⟩
 ·simp[Value.ownBlock]
 ·intro he
  simp[Value.ownBlock] at he;subst he;have h1:=h'.h;rw[hg] at h1;simp at h1;exact hne h1.2
theorem zBl{F:Nat→Prop}{w w':World}{b e s n:Nat}{v:Value}{xs:List Value}(h:w.ownsRow b e s v n xs)(k:Chg F w w')(hF:∀g,v.ownBlock=some g→¬F g):w'.ownsRow b e s v n xs:=by
 refine⟨h.1,?_⟩
 rcases h.2 with hn|⟨g,cap,cur,rfl,hb,hgg,rest⟩
 ·exact .inl hn
 ·refine .inr ⟨g,cap,cur,rfl,hb,?_,rest⟩
  rw[k.block g (Array.getElem?_eq_some_iff.1 hgg).1 (hF g rfl)];exact hgg
theorem zYJ{w w':World}{b e s n:Nat}{v:Value}{xs:List Value}(h:w.ownsRow b e s v n xs)(k:G w w'):w'.ownsRow b e s v n xs:=zBl (F:=fun _=>False) h k.chg (fun _ _=>id)
theorem zVJ{w:World}{b e s n g:Nat}{v:Value}{xs:List Value}(h:w.ownsRow b e s v n xs)(hg:v.ownBlock=some g):g<w.heap.size:=(World.ownsRow.lt h g hg).2
def RowN(W:World)(z:Nat)(e:TypeId)(v:Value)(n:Nat)(X:Nat→Value):Prop:=W.ownsRow z e 1 v n ((List.range n).map X)
theorem RowN.cell{W:World}{z:Nat}{e:TypeId}{v:Value}{n:Nat}{X:Nat→Value}(h:RowN W z e v n X){i:Nat}(hi:i<n):∃g cap,v=.slice (some ⟨g,0,none⟩) n cap∧W.cell? ⟨g,i,none⟩=some (X i):=by
 rcases h.2 with ⟨_,h0⟩|⟨g,cap,cur,rfl,_⟩
 ·omega
 ·refine⟨g,cap,rfl,?_⟩
  have:=World.ownsRow.cells h (g:=g) rfl i (X i) (by rw[List.getElem?_map,List.getElem?_range hi];rfl);rw[Addr.add_mid,Nat.zero_add] at this;exact this
theorem RowN.slice{W:World}{z:Nat}{e:TypeId}{v:Value}{n:Nat}{X:Nat→Value}(h:RowN W z e v n X):∃a cap,v=.slice a n cap:=by
 rcases h.2 with ⟨rfl,rfl⟩|⟨g,cap,cur,rfl,_⟩
 ·exact⟨none,0,rfl⟩
 ·exact⟨_,cap,rfl⟩
def TyB(W:World)(j:Nat)(e:TypeId):Prop:=∃cur fr,W.heap[j]?=some (.cells cur e fr)
theorem TyB.chg{F:Nat→Prop}{W W':World}{j:Nat}{e:TypeId}(h:TyB W j e)(k:Chg F W W')(hF:¬F j):TyB W' j e:=by
 obtain⟨cur,fr,hj⟩:=h;exact⟨cur,fr,(k.block j (Array.getElem?_eq_some_iff.1 hj).1 hF).trans hj⟩
theorem RowN.chg{F:Nat→Prop}{W W':World}{z:Nat}{e:TypeId}{v:Value}{n:Nat}{X:Nat→Value}(h:RowN W z e v n X)(k:Chg F W W')(hF:∀g,v.ownBlock=some g→¬F g):RowN W' z e v n X:=zBl h k hF
theorem zB8{W:World}{z e s n:Nat}{v:Value}{xs:List Value}(h:W.ownsRow z e s v n xs)(hn:0<n):∃g cap,v=.slice (some ⟨g,0,none⟩) n cap:=by
 rcases h.2 with ⟨_,h0⟩|⟨g,cap,cur,rfl,_⟩
 ·omega
 ·exact⟨g,cap,rfl⟩
theorem zTf{W:World}{z e n g cap j:Nat}{xs:List Value}{x:Value}(h:W.ownsRow z e 1 (.slice (some ⟨g,0,none⟩) n cap) n xs):(W.setCell ⟨g,j,none⟩ x).ownsRow z e 1 (.slice (some ⟨g,0,none⟩) n cap) n (xs.set j x):=by
 obtain⟨hl,h2⟩:=h;refine⟨by rw[List.length_set];exact hl,?_⟩
 rcases h2 with ⟨h0,_⟩|⟨g',cap',cur,hv,hb,hg,hc,hm,hs,ht⟩
 ·cases h0
 ·cases hv
  refine .inr ⟨g,cap,cur.setIfInBounds j x,rfl,hb,?_,hc,hm,by simpa using hs,?_⟩
  ·simp[World.setCell,Array.getElem?_modify,hg]
  ·rw[Array.toList_setIfInBounds,List.take_set,ht]
theorem zKM{W:World}{z e n g cap j:Nat}{xs:List Value}(h:W.ownsRow z e 1 (.slice (some ⟨g,0,none⟩) n cap) n xs)(hj:j<n):∃y,W.cell? ⟨g,j,none⟩=some y∧W.frozen? ⟨g,j,none⟩=false:=by
 have hl:xs.length=n:=by have:=h.1;omega
 have he:xs[j]?=some xs[j]:=List.getElem?_eq_getElem (by omega);have hc:=World.ownsRow.cells h (g:=g) rfl j xs[j] he;rw[Addr.add_mid,Nat.zero_add] at hc;refine⟨_,hc,?_⟩
 rcases h.2 with ⟨h0,_⟩|⟨g',cap',cur,hv,hb,hg,_⟩
 ·cases h0
 ·cases hv
  simp[World.frozen?,hg]
theorem zEi{P:Program}(w:World)(base:Nat)(t ty e:TypeId)(i:TypeInfo)(z:Value)(size bytes:Nat)(ht:P.underlying t=some (.slice e))(hi:P.info? e=some i)(hz:i.zero=some z)
  (hsize:i.size=size) (hby:i.bytes=bytes) (hzs:z.cells.size=size) (hsz:0<size)
  (v:Value) (n:Nat) (xs:List Value) (hown:w.ownsRow base e size v n xs)
  (a:Addr) (c:Nat) (news:List Value) (hl:news.length=1*size) (hnews:∀j u,news[j]?=some u→w.cell? (a.add j)=some u) (h1:∀u∈news,u.oneCell'=true)
  (h63:n+1≤maxLen) (hbytes:(n+1)*bytes≤140737488355328) (hbase:base≤w.heap.size) :
  ∃v' w',(Builtin.append_ #[t,t] ty #[v,.slice (some a) 1 c]).run P w=.ok v' w'∧w'.ownsRow base e size v' (n+1) (xs++news)∧
   ((v'.ownBlock=v.ownBlock∧v'.ownBlock≠none∧Chg (fun k=>v.ownBlock=some k) w w')∨(v'.ownBlock=some w.heap.size∧G w w')):=by
 obtain⟨v',w',hr,q2,q3,_,q5⟩:=run_append_own_at (P:=P) w base t ty e i z size bytes ht hi hz hsize hby hzs hsz v n xs hown a 1 c news hl hnews h1 h63 hbytes hbase
 have hne:v'.ownBlock≠none:=by
  obtain⟨g,cap,rfl⟩:=zB8 q2 (by omega);simp[Value.ownBlock]
 have hch:Chg (fun k=>v.ownBlock=some k) w w':=⟨q3.os,q3.tape,q3.output,q3.size,fun k hk hn=>q3.block k hk (fun e=>hn e.symm)⟩;refine⟨v',w',hr,q2,?_⟩
 rcases q5 with q5|q5
 ·exact .inl ⟨q5,hne,hch⟩
 ·rcases hown.2 with ⟨rfl,rfl⟩|⟨g,cap,cur,rfl,hbg,hg,hnc,hcm,hcs,htake⟩
  ·exact .inr ⟨q5,hch.G (fun k hk=>by simp[Value.ownBlock] at hk)⟩
  ·by_cases hroom:n+1≤cap
   ·have hfit:n*i.size+news.length≤cur.size:=by rw[hl,hcs,hsize,←Nat.add_mul];exact Nat.mul_le_mul_right _ hroom
    have hr2:=run_append_room (P:=P) w t ty e i ht hi g n cap cur hg a 1 c news (by rw[hsize];exact hl) hnews h1 hroom hfit;rw[hr] at hr2;simp only[Result.ok.injEq] at hr2;exact .inl ⟨by rw[hr2.1];rfl,hne,hch⟩
   ·have holds:∀j u,xs[j]?=some u→w.cell? ((⟨g,0,none⟩:Addr).add j)=some u:=World.ownsRow.cells hown (g:=g) rfl
    have hr2:=run_append_grow (P:=P) w t ty e i z ht hi hz ⟨g,0,none⟩ n cap xs (by rw[hsize];exact hown.1) holds a 1 c news (by rw[hsize];exact hl) hnews (by omega) (by unfold maxLen at h63;omega) (growslice_fits (by omega) (by rw[hby];exact hbytes));rw[hr] at hr2;simp only[Result.ok.injEq] at hr2;refine .inr ⟨q5,?_⟩;rw[hr2.2];exact((G.refl w).drew).alloc _
theorem zAX{P:Program}{w:World}{ops:Array Oper}{rest:List Oper}{o:Oper}{a:Act}{Q:Exit→Act→World→Prop}(hgd:o.guard=none)(s x:Operand)(t:TypeId)
  (ho:o.op=.call {callee:=.builtin .append,args:=#[s,x],argTypes:=#[t,t]}) (v z:Value) (hs:a.eval s=v) (hx:a.eval x=z) {v':Value} {w':World} (hr:(Builtin.append_ #[t,t] o.type #[v,z]).run P w=.ok v' w')
  (h:wpList P ops Q rest (a.put o.dst v') w'):wpList P ops Q (o::rest) a w:=by
 refine wpList_plain hgd fun K hK=>?_;unfold Oper.wp execOp;simp only[ho,resolve,invoke,builtin,Sem.run_bind,Sem.run_pure,Result.andThen_ok,List.map_toArray,List.map_cons,List.map_nil,hs,hx,hr];exact hK _ _ h
def upd(X:Nat→Value)(n:Nat)(x:Value)(t:Nat):Value:=if t=n then x else X t
theorem RowN.push{W:World}{z:Nat}{e:TypeId}{v:Value}{n:Nat}{X:Nat→Value}{x:Value}(h:W.ownsRow z e 1 v (n+1) ((List.range n).map X++[x])):RowN W z e v (n+1) (upd X n x):=by
 have he:(List.range (n+1)).map (upd X n x)=(List.range n).map X++[x]:=by
  rw[List.range_succ,List.map_append]
  congr 1
  ·refine List.map_congr_left fun i hi=>?_
   have:=List.mem_range.1 hi;unfold upd;rw[if_neg (by omega)]
  ·simp[upd]
 unfold RowN;rw[he];exact h
structure Ap(W W':World)(v v':Value):Prop where
 h:(v'.ownBlock=v.ownBlock∧v'.ownBlock≠none∧Chg (fun k=>v.ownBlock=some k) W W')∨(v'.ownBlock=some W.heap.size∧Go.Proofs.YthmdjhfbhbheeaaGreatDoor.G W W')
theorem Ap.chg{W W':World}{v v':Value}(h:Ap W W' v v'):Chg (fun k=>v.ownBlock=some k) W W':=by
 rcases h.h with h|h
 ·exact h.2.2
 ·exact h.2.chg
theorem Ap.own{W W':World}{v v':Value}(h:Ap W W' v v'){g:Nat}(hg:v'.ownBlock=some g):v.ownBlock=some g∨g=W.heap.size:=by
 rcases h.h with h|h
 ·exact .inl (h.1▸hg)
 ·rw[h.1] at hg
  exact .inr (Option.some.inj hg).symm
theorem zAB{W:World}{z e s n g:Nat}{v:Value}{xs:List Value}(h:W.ownsRow z e s v n xs)(hg:v.ownBlock=some g):TyB W g e:=by
 rcases h.2 with ⟨rfl,_⟩|⟨g',c,u,rfl,_,hh,_⟩
 ·cases hg
 ·simp[Value.ownBlock] at hg
  subst hg;exact⟨u,_,hh⟩
theorem zAT{W:World}{a b:Nat}{e e':TypeId}(h:TyB W a e)(h':TyB W b e')(he:e≠e'):a≠b:=fun hab=>by
 obtain⟨u,f,h⟩:=h;obtain⟨u',f',h'⟩:=h';subst hab;rw[h] at h';simp at h';exact he h'.2.1
theorem TyB.lt{W:World}{a:Nat}{e:TypeId}(h:TyB W a e):a<W.heap.size:=by
 obtain⟨u,f,h⟩:=h;exact(Array.getElem?_eq_some_iff.1 h).1
theorem G.setCellsY{a:World}:∀(vs:List Value) {w:World} (_:G a w) {b o:Nat} (_:a.heap.size≤b),G a (w.setCells b o vs)
 | [],_,h,_,_,_=>h
 | v::vs,_,h,_,_,hb=>G.setCellsY vs (h.setCell hb v) hb
theorem hidY{p:Prop}(h:p):Hid p:=h
end
section
open Go.RowKit
theorem zBZ{F:Nat→Prop}{w w':World}{b o:Nat}{v:Value}(h:w.cell? ⟨b,o,none⟩=some v)(k:Chg F w w')(hF:¬F b):w'.cell? ⟨b,o,none⟩=some v:=(World.cell?_of_block (w:=w) (k.block b (World.block_lt_of_cell? _ _ h) hF)).trans h
def mkY(i j:Nat):Nat:=if j%2=0 then i%251 else i/251%251
theorem zMG(i j:Nat)(hi:i≤4611686018427387904)(hj:j≤4611686018427387904)(w:World):Calls prog 29 #[.int .i64 i,.int .i64 j] w fun e w'=>e=.returned (bv (mkY i j))∧w'=w:=by
 have e1:Int.tmod (j:Int) 2=((j%2:Nat):Int):=by rw[Int.tmod_eq_emod_of_nonneg (by omega)];omega
 have e2:Int.tmod (i:Int) 251=((i%251:Nat):Int):=by rw[Int.tmod_eq_emod_of_nonneg (by omega)];omega
 have e3:Int.tdiv (i:Int) 251=((i/251:Nat):Int):=by rw[Int.tdiv_eq_ediv_of_nonneg (by omega)];omega
 have e4:Int.tmod ((i/251:Nat):Int) 251=((i/251%251:Nat):Int):=by rw[Int.tmod_eq_emod_of_nonneg (by omega)];omega
 have w1:IntKind.i64.wrap ((j%2:Nat):Int)=((j%2:Nat):Int):=by rw[IntKind.wrap_i64];omega
 have w2:IntKind.i64.wrap ((i%251:Nat):Int)=((i%251:Nat):Int):=by rw[IntKind.wrap_i64];omega
 have w3:IntKind.i64.wrap ((i/251:Nat):Int)=((i/251:Nat):Int):=by rw[IntKind.wrap_i64];omega
 have w4:IntKind.i64.wrap ((i/251%251:Nat):Int)=((i/251%251:Nat):Int):=by rw[IntKind.wrap_i64];omega
 have u2:IntKind.u8.wrap ((i%251:Nat):Int)=((i%251:Nat):Int):=by rw[IntKind.wrap_u8];omega
 have u4:IntKind.u8.wrap ((i/251%251:Nat):Int)=((i/251%251:Nat):Int):=by rw[IntKind.wrap_u8];omega
 by_cases h:j%2=0
 ·have hm:mkY i j=i%251:=by unfold mkY;rw[if_pos h]
  rw[hm];rw[h] at e1 w1;generalize i%251=a at *
  go_enter func29,ntmps29
  go_wp2
  go_ret;exact⟨rfl,rfl⟩
 ·have hm:mkY i j=i/251%251:=by unfold mkY;rw[if_neg h]
  rw[hm]
  have h1:j%2=1:=by omega
  rw[h1] at e1 w1;generalize i/251%251=a at *;generalize i/251=b at *
  go_enter func29,ntmps29
  go_wp2
  go_ret;exact⟨rfl,rfl⟩
def mkL(i k:Nat):List Value:=(List.range k).map (fun j=>bv (mkY i j))
theorem zRe{i k j:Nat}(h:j<k):(mkL i k)[j]?=some (bv (mkY i j)):=by unfold mkL;rw[List.getElem?_map,List.getElem?_range h];rfl
theorem zVX{xs:List Value}{i k:Nat}(hl:xs.length=k)(h:∀t,t<k→xs[t]?=some (bv (mkY i t))):xs=mkL i k:=by
 refine List.ext_getElem? fun t=>?_
 by_cases ht:t<k
 ·rw[h t ht,zRe ht]
 ·rw[List.getElem?_eq_none (by omega),List.getElem?_eq_none (by unfold mkL;simp;omega)]
def Rd(W:World)(x:Value)(k i:Nat):Prop:=∃a cap,x=.slice a k cap∧∀j,j<k→∃g,a=some ⟨g,0,none⟩∧W.cell? ⟨g,j,none⟩=some (bv (mkY i j))
theorem Rd.chg{F:Nat→Prop}{W W':World}{x:Value}{k i:Nat}(h:Rd W x k i)(c:Chg F W W')(hF:∀g,x.ownBlock=some g→¬F g):Rd W' x k i:=by
 obtain⟨a,cap,rfl,h⟩:=h;refine⟨a,cap,rfl,fun j hj=>?_⟩;obtain⟨g,rfl,hc⟩:=h j hj;exact⟨g,rfl,zBZ hc c (hF g rfl)⟩
theorem zQ9{W:World}{z n a i:Nat}{x v:Value}{xs:List Value}(h:W.ownsRow z 5 1 x n xs)(ha:a≤n)(hx:∀j,j<a→xs[j]?=some (bv (mkY i j)))(hv:∃cap p,v=.slice p a cap∧(a=0∨∃g,p=some ⟨g,0,none⟩∧x.ownBlock=some g)):Rd W v a i:=by
 obtain⟨cap,p,rfl,hp⟩:=hv;refine⟨p,cap,rfl,fun j hj=>?_⟩;obtain⟨g,rfl,hg⟩:=hp.resolve_left (by omega);obtain⟨g',c',rfl⟩:=zB8 h (by omega);simp[Value.ownBlock] at hg;subst hg;have:=World.ownsRow.cells h (g:=g') rfl j _ (hx j hj);rw[Addr.add_mid,Nat.zero_add] at this;exact⟨g',rfl,this⟩
structure BV(W:World)(z bb n m i:Nat)(lv:Value)(X:Nat→Value)(ln:Nat→Nat):Prop where
 b:Blk W bb 28 [lv]
 l:RowN W z 33 lv n X
 zb:z≤bb
 e:∀t,t<m→t<n→Rd W (X t) (ln t) t
 o:∀t,m≤t→t<n→∃xs,W.ownsRow z 5 1 (X t) (ln t) xs∧(t<i→xs=mkL t (ln t))
 d:∀t s g,t<n→s<n→t≠s→(X t).ownBlock=some g→(X s).ownBlock≠some g
 k:∀t g,t<n→(X t).ownBlock=some g→z≤g∧TyB W g 5
 s:∀t,t<n→ln t≤1073741824
theorem BV.chg{F:Nat→Prop}{W W':World}{z bb n m i:Nat}{lv:Value}{X:Nat→Value}{ln:Nat→Nat}(h:BV W z bb n m i lv X ln)(c:Chg F W W')(h1:¬F bb)(h2:∀g,lv.ownBlock=some g→¬F g)(h3:∀t g,t<n→(X t).ownBlock=some g→¬F g):BV W' z bb n m i lv X ln:=
 ⟨h.b.chg c h1,h.l.chg c h2,h.zb,fun t ht hn=>(h.e t ht hn).chg c (fun g hg=>h3 t g hn hg),fun t ht hn=>(h.o t ht hn).elim fun xs hx=>⟨xs,zBl hx.1 c (fun g hg=>h3 t g hn hg),hx.2⟩,h.d,fun t g hn hg=>⟨(h.k t g hn hg).1,(h.k t g hn hg).2.chg c (h3 t g hn hg)⟩,h.s⟩
theorem BV.G{W W':World}{z bb n m i:Nat}{lv:Value}{X:Nat→Value}{ln:Nat→Nat}(h:BV W z bb n m i lv X ln)(g:Go.Proofs.YthmdjhfbhbheeaaGreatDoor.G W W'):BV W' z bb n m i lv X ln:=h.chg (F:=fun _=>False) g.chg (fun e=>e) (fun _ _ e=>e) (fun _ _ _ _ e=>e)
structure A3(W0 W:World)(z c:Nat)(x zi:Value)(ln i:Nat):Prop where
 o:∃xs,W.ownsRow z 5 1 x (ln+c) xs∧∀j,j<ln→xs[j]?=some (bv (mkY i j))
 y:Rd W zi ln i
 t:∀g,zi.ownBlock=some g→TyB W g 5
 q:x.ownBlock=zi.ownBlock∨∃g,x.ownBlock=some g∧W0.heap.size≤g
 c:Chg (fun b=>zi.ownBlock=some b) W0 W
theorem A3.step{W0 W W1 W2:World}{z c ln i:Nat}{x x' zi:Value}{xs:List Value}{y:Value}(h:A3 W0 W z c x zi ln i)(g:G W W1)(hx:∀j,j<ln→xs[j]?=some (bv (mkY i j)))(hxl:xs.length=ln+c)(hl:W2.ownsRow z 5 1 x' (ln+c+1) (xs++[y]))
  (ha:(x'.ownBlock=x.ownBlock∧x'.ownBlock≠none∧Chg (fun k=>x.ownBlock=some k) W1 W2)∨(x'.ownBlock=some W1.heap.size∧G W1 W2)) (hzlt:∀j,zi.ownBlock=some j→j<W0.heap.size) (hzi:∃cap p,zi=.slice p ln cap∧(ln=0∨∃g,p=some ⟨g,0,none⟩)):A3 W0 W2 z (c+1) x' zi ln i:=by
 have s1:=h.c.size;have s2:=g.size
 have hx2:∀j,j<ln→(xs++[y])[j]?=some (bv (mkY i j)):=fun j hj=>by rw[List.getElem?_append_left (by omega)];exact hx j hj
 rcases ha with ⟨a1,a2,a3⟩|⟨a1,a2⟩
 ·rcases h.q with q|⟨g0,q,hg0⟩
  ·have hsame:x'.ownBlock=zi.ownBlock:=a1.trans q
   obtain⟨cap,p,rfl,hp⟩:=hzi;exact⟨⟨_,hl,hx2⟩,zQ9 hl (by omega) hx2 ⟨cap,p,rfl,hp.imp id (fun ⟨g1,e⟩=>⟨g1,e,by rw[hsame,e];rfl⟩)⟩,fun g1 hg1=>zAB hl (hsame.trans hg1),.inl hsame,(h.c.trans g.chg).trans (a3.mono (fun k hk=>by rw[←q];exact hk))⟩
  ·have hn:∀j,zi.ownBlock=some j→¬x.ownBlock=some j:=fun j hj e=>by
    have h7:=hzlt j hj;rw[q] at e;cases e;omega
   exact⟨⟨_,hl,hx2⟩,(h.y.chg g.chg (F:=fun _=>False) (fun _ _ e=>e)).chg a3 hn,fun j hj=>((h.t j hj).chg g.chg (F:=fun _=>False) (fun e=>e)).chg a3 (hn j hj),.inr ⟨g0,a1.trans q,hg0⟩,(h.c.trans g.chg).more a3 (fun j hj e=>by rw[q] at e;cases e;omega)⟩
 ·exact⟨⟨_,hl,hx2⟩,(h.y.chg g.chg (F:=fun _=>False) (fun _ _ e=>e)).chg a2.chg (F:=fun _=>False) (fun _ _ e=>e),fun j hj=>((h.t j hj).chg g.chg (F:=fun _=>False) (fun e=>e)).chg a2.chg (F:=fun _=>False) (fun e=>e),.inr ⟨_,a1,by omega⟩,(h.c.trans g.chg).trans a2.chg⟩
theorem zWd:∃i,prog.info? 5=some i∧i.zero=some (bv 0)∧i.size=1∧i.bytes=1:=info_parts (by kernel_rfl)
theorem zNR(z bb n m:Nat)(lv:Value)(X:Nat→Value)(ln:Nat→Nat)(hmn:m≤n)(hn:n≤5864062014805)(w:World)(h:BV w z bb n m m lv X ln):Calls prog 11 #[.pointer (some ⟨bb,0,none⟩),.int .i64 m] w fun e w'=>e=.returned (.tuple #[])∧BV w' z bb n n n lv X ln∧Chg (fun j=>z≤j) w w':=by
 obtain⟨la,lc,elv⟩:=h.l.slice;subst elv;have H0:=hidY h;clear h
 go_enter func11,ntmps11
 go_wp2_with fail
 go_loopw [4,5] (fun c _ W=>∃i:Nat,m≤i∧i≤n∧c=.int .i64 i∧BV W z bb n m i (.slice la n lc) X ln∧Chg (fun j=>z≤j) w W) (fun c _ _=>n-(RowKit.intOf c).toNat)
 case atStart=>exact⟨m,by omega,hmn,rfl,H0.out,Chg.refl _ _⟩
 case round=>
  obtain⟨i,hmi,hi,rfl,hb1,hc1⟩:=hrel;have H1:=hidY hb1;have HC1:=hidY hc1;clear hb1 hc1 H0;generalize wr=wo at *;have hcb0:=H1.out.b.cell
  by_cases hlt:i<n
  ·have hiI:(i:Int)<(n:Int):=by omega
   obtain⟨gl,cl',el,hcl0⟩:=H1.out.l.cell hlt;cases el;obtain⟨xs0,ho0,_⟩:=H1.out.o i hmi hlt
   obtain⟨za,zc,ez⟩:∃a c,X i=.slice a (ln i) c:=by
    rcases ho0.2 with ⟨e1,e2⟩|⟨g,c,_,e1,_⟩
    ·exact⟨none,0,by rw[e1,e2]⟩
    ·exact⟨_,_,e1⟩
   have HEZ:=hidY ez;have HO0:=hidY ho0;rw[ez] at hcl0;have HCB:=hidY (show wo.cell? ⟨bb,0,none⟩=some (.slice (some ⟨gl,0,none⟩) n lc)from hcb0 0);have HCL:=hidY hcl0;have HUT:Hid (TyB wo gl 33):=zAB H1.out.l rfl
   have hlnI:(ln i:Int)≤1073741824:=by have:=H1.out.s i hlt;omega
   have hlnN:ln i≤1073741824:=H1.out.s i hlt
   go_wp2_with fail
   clear hcb0 hcl0
   go_loopw [5] (fun c W=>∃j:Nat,j≤ln i∧c=.int .i64 j∧Chg (fun b=>(X i).ownBlock=some b) wo W∧∃xs,W.ownsRow z 5 1 (X i) (ln i) xs∧∀t,t<j→xs[t]?=some (bv (mkY i t))) (fun c _=>ln i-(RowKit.intOf c).toNat)
   case atStart=>exact⟨0,by omega,rfl,Chg.refl _ _,xs0,HO0.out,fun t ht=>by omega⟩
   case round=>
    obtain⟨j,hj,rfl,hch,xs,hox,hxs⟩:=hrel;have HCH:=hidY hch;have HOX:=hidY hox;have HXS:=hidY hxs;have hcl:=zBZ HCL.out hch (fun e=>zAT (zAB HO0.out e) HUT.out (by decide) rfl);have hcb:=zBZ HCB.out hch (fun e=>zDV HO0.out H1.out.b (by decide) e);clear hch hox hxs
    by_cases hjl:j<ln i
    ·have hjI:(j:Int)<(ln i:Int):=by omega
     have ho3:=HOX.out;rw[HEZ.out] at ho3;obtain⟨g,cap,eg⟩:=zB8 ho3 (by omega);cases eg;obtain⟨y,hy1,hy2⟩:=zKM ho3 hjl;have HOS:=hidY (zTf (x:=bv (mkY i j)) (j:=j) (zYJ ho3 (G.drew (G.refl _))));have hgne:g≠bb∧g≠gl:=⟨fun e=>zDV HO0.out H1.out.b (by decide) (by rw[HEZ.out,e];rfl),fun e=>zAT (zAB HO0.out (show _=some g by rw[HEZ.out];rfl)) HUT.out (by decide) e⟩;have cs:Chg (fun b=>b=g) wr (wr.drew.setCell ⟨g,j,none⟩ (bv (mkY i j))):=((G.drew (G.refl wr)).chg).trans (zBp _ _ (.inl rfl));have HSB:=hidY (zBZ hcb cs (fun e=>hgne.1 e.symm));have HSL:=hidY (zBZ hcl cs (fun e=>hgne.2 e.symm));clear ho3
     go_wp2_with fail
     refine wp_region_noPanic ?_;refine wp_region_held_drew (S:=(fun W=>W.cell? ⟨bb,0,none⟩=some (.slice (some ⟨gl,0,none⟩) n lc)∧W.cell? ⟨gl,i,none⟩=some (.slice (some ⟨g,0,none⟩) (ln i) zc))) (by kernel_rfl) (⟨hcb,hcl⟩) (fun hHeld=>?_);refine wpAnyH_take (i:=0) (v:=?_) rfl (by kernel_rfl) (by kernel_rfl) (by kernel_rfl) (fun _ _ _ h=>h) (Or.inl ⟨by rfl,?_⟩) hHeld ?_;rotate_left 1
     ·(intro w hSw;(try dsimp only at hSw);go_simp;try with_reducible rfl)
     try simp only[Act.put,List.getElem_toArray,List.getElem_cons_zero,List.setIfInBounds_toArray,List.set_cons_zero,List.set_cons_succ]
     refine wpAnyH_take (i:=1) (v:=?_) rfl (by kernel_rfl) (by kernel_rfl) (by kernel_rfl) (fun _ _ _ h=>h) (Or.inl ⟨by rfl,?_⟩) hHeld ?_;rotate_left 1
     ·(intro w hSw;(try dsimp only at hSw);go_simp;try with_reducible rfl)
     try simp only[Act.put,List.getElem_toArray,List.getElem_cons_zero,List.getElem_cons_succ,List.setIfInBounds_toArray,List.set_cons_zero,List.set_cons_succ]
     refine wpAnyH_take (i:=2) (v:=?_) rfl (by kernel_rfl) (by kernel_rfl) (by kernel_rfl) (fun _ _ _ h=>h) (Or.inl ⟨by rfl,?_⟩) hHeld ?_;rotate_left 1
     ·(intro w hSw;(try dsimp only at hSw);go_simp;try with_reducible rfl)
     try simp only[Act.put,List.getElem_toArray,List.getElem_cons_zero,List.getElem_cons_succ,List.setIfInBounds_toArray,List.set_cons_zero,List.set_cons_succ]
     refine wpAnyH_take (i:=3) (v:=?_) rfl (by kernel_rfl) (by kernel_rfl) (by kernel_rfl) (fun _ _ _ h=>h) (Or.inl ⟨by rfl,?_⟩) hHeld ?_;rotate_left 1
     ·(intro w hSw;obtain⟨q1,q2⟩:=hSw;go_simp;try with_reducible rfl)
     try simp only[Act.put,List.getElem_toArray,List.getElem_cons_zero,List.getElem_cons_succ,List.setIfInBounds_toArray,List.set_cons_zero,List.set_cons_succ]
     refine wpAnyH_take (i:=4) (v:=?_) rfl (by kernel_rfl) (by kernel_rfl) (by kernel_rfl) (fun _ _ _ h=>h) (Or.inl ⟨by rfl,?_⟩) hHeld ?_;rotate_left 1
     ·(intro w hSw;(try dsimp only at hSw);go_simp;try with_reducible rfl)
     try simp only[Act.put,List.getElem_toArray,List.getElem_cons_zero,List.getElem_cons_succ,List.setIfInBounds_toArray,List.set_cons_zero,List.set_cons_succ]
     refine wpAnyH_take (i:=5) (v:=?_) rfl (by kernel_rfl) (by kernel_rfl) (by kernel_rfl) (fun _ _ _ h=>h) (Or.inl ⟨by rfl,?_⟩) hHeld ?_;rotate_left 1
     ·(intro w hSw;(try dsimp only at hSw);go_simp;try with_reducible rfl)
     try simp only[Act.put,List.getElem_toArray,List.getElem_cons_zero,List.getElem_cons_succ,List.setIfInBounds_toArray,List.set_cons_zero,List.set_cons_succ]
     refine wpAnyH_take (i:=6) (v:=?_) rfl (by kernel_rfl) (by kernel_rfl) (by kernel_rfl) (fun _ _ _ h=>h) (Or.inl ⟨by rfl,?_⟩) hHeld ?_;rotate_left 1
     ·(intro w hSw;obtain⟨q1,q2⟩:=hSw;go_simp;try with_reducible rfl)
     try simp only[Act.put,List.getElem_toArray,List.getElem_cons_zero,List.getElem_cons_succ,List.setIfInBounds_toArray,List.set_cons_zero,List.set_cons_succ]
     refine wpAnyH_take (i:=7) (v:=?_) rfl (by kernel_rfl) (by kernel_rfl) (by kernel_rfl) (fun _ _ _ h=>h) (Or.inl ⟨by rfl,?_⟩) hHeld ?_;rotate_left 1
     ·(intro w hSw;(try dsimp only at hSw);go_simp;try with_reducible rfl)
     try simp only[Act.put,List.getElem_toArray,List.getElem_cons_zero,List.getElem_cons_succ,List.setIfInBounds_toArray,List.set_cons_zero,List.set_cons_succ]
     refine wpAnyH_take (i:=8) (v:=?_) rfl (by kernel_rfl) (by kernel_rfl) (by kernel_rfl) (fun _ _ _ h=>h) (Or.inl ⟨by rfl,?_⟩) hHeld ?_;rotate_left 1
     ·(intro w hSw;(try dsimp only at hSw);go_simp;try with_reducible rfl)
     try simp only[Act.put,List.getElem_toArray,List.getElem_cons_zero,List.getElem_cons_succ,List.setIfInBounds_toArray,List.set_cons_zero,List.set_cons_succ]
     refine wpAnyH_take (i:=9) (v:=?_) rfl (by kernel_rfl) (by kernel_rfl) (by kernel_rfl) (fun _ _ _ h=>h) (Or.inl ⟨by rfl,?_⟩) hHeld ?_;rotate_left 1
     ·(intro w hSw;(try dsimp only at hSw);go_simp;try with_reducible rfl)
     try simp only[Act.put,List.getElem_toArray,List.getElem_cons_zero,List.getElem_cons_succ,List.setIfInBounds_toArray,List.set_cons_zero,List.set_cons_succ]
     refine wpAnyH_ready (rs:=[10]) (by kernel_rfl) (by simp) (AllReadyH.cons rfl (fun K hK=>?_) AllReadyH.nil);clear hHeld
     go_simp
     refine(zMG i j (by omega) (by omega) _).mono ?_;rintro e' w2 ⟨rfl,rfl⟩
     go_wp2_with fail
     refine hK.out _ _ (⟨hcb,hcl⟩) (fun hHeld=>?_);clear hK K
     try simp only[Act.put,List.getElem_toArray,List.getElem_cons_zero,List.getElem_cons_succ,List.setIfInBounds_toArray,List.set_cons_zero,List.set_cons_succ]
     refine wpAnyH_take (i:=11) (v:=?_) rfl (by kernel_rfl) (by kernel_rfl) (by kernel_rfl) (fun _ _ _ h=>h) (Or.inl ⟨by rfl,?_⟩) hHeld ?_;rotate_left 1
     ·(intro w hSw;(try dsimp only at hSw);go_simp;try with_reducible rfl)
     try simp only[Act.put,List.getElem_toArray,List.getElem_cons_zero,List.getElem_cons_succ,List.setIfInBounds_toArray,List.set_cons_zero,List.set_cons_succ]
     refine wpAnyH_ready (rs:=[12]) (by kernel_rfl) (by simp) (AllReadyH.cons rfl (fun K hK=>?_) AllReadyH.nil);clear hHeld;have hy3:wr.drew.cell? ⟨g,j,none⟩=some y:=hy1;have hy4:wr.drew.frozen? ⟨g,j,none⟩=false:=hy2
     go_simp
     refine hK.out _ _ (⟨HSB.out,HSL.out⟩) (fun hHeld=>?_);clear hK K
     try simp only[Act.put,List.getElem_toArray,List.getElem_cons_zero,List.getElem_cons_succ,List.setIfInBounds_toArray,List.set_cons_zero,List.set_cons_succ]
     refine wpAnyH_done (by kernel_rfl) ?_ _;refine NoPanic.normal ?_;clear hcl hcb
     go_wp2
     go_roundw
     case rel=>
      refine⟨j+1,by omega,by go_num,(HCH.out.trans ((G.drew (G.refl wr)).chg)).trans (zBp _ _ (.inl (by rw[HEZ.out];rfl))),xs.set j (bv (mkY i j)),by rw[HEZ.out];exact HOS.out,fun t ht=>?_⟩
      have hxl:xs.length=ln i:=by have:=HOX.out.1;omega
      by_cases htj:t=j
      ·subst htj
       rw[List.getElem?_set_self (by omega)]
      ·rw[List.getElem?_set_ne (fun e=>htj e.symm)]
       exact HXS.out t (by omega)
     case measure=>simp[RowKit.intOf];omega
    ·obtain rfl:j=ln i:=by omega
     have HN1:Hid (BV wr z bb n m (i+1) (.slice (some ⟨gl,0,none⟩) n lc) X ln∧Chg (fun j=>z≤j) w wr):=by
      refine⟨⟨H1.out.b.chg HCH.out (fun e=>zDV HO0.out H1.out.b (by decide) e),H1.out.l.chg HCH.out (fun g hg e=>zAT (zAB HO0.out e) (zAB H1.out.l hg) (by decide) rfl),H1.out.zb,fun t ht hn=>(H1.out.e t ht hn).chg HCH.out (fun g hg e=>H1.out.d t i g hn hlt (by omega) hg e),fun t ht hn=>?_,H1.out.d,fun t g hn hg=>⟨(H1.out.k t g hn hg).1,?_⟩,H1.out.s⟩,HC1.out.trans (HCH.out.mono (fun g hg=>(H1.out.k i g hlt hg).1))⟩
      ·by_cases hti:t=i
       ·subst hti
        exact⟨xs,HOX.out,fun _=>zVX (by have:=HOX.out.1;omega) HXS.out⟩
       ·obtain⟨ys,hy1,hy2⟩:=H1.out.o t ht hn
        exact⟨ys,zBl hy1 HCH.out (fun g hg e=>H1.out.d t i g hn hlt hti hg e),fun h9=>hy2 (by omega)⟩
      ·by_cases hti:t=i
       ·subst hti
        exact zAB HOX.out hg
       ·exact(H1.out.k t g hn hg).2.chg HCH.out (H1.out.d t i g hn hlt hti hg)
     go_wp2
     go_roundw
     case rel=>exact⟨i+1,by omega,by omega,by go_num,HN1.out⟩
     case measure=>simp[RowKit.intOf];omega
  ·have hiN:¬((i:Int)<(n:Int)):=by omega
   have hin:n≤i:=by omega
   have H2:Hid (BV wo z bb n m n (.slice la n lc) X ln):=⟨H1.out.b,H1.out.l,H1.out.zb,H1.out.e,fun t ht hn=>(H1.out.o t ht hn).elim fun xs hx=>⟨xs,hx.1,fun _=>hx.2 (by omega)⟩,H1.out.d,H1.out.k,H1.out.s⟩
   go_wp2_with fail
   clear hcb0 H1
   go_loopw [6,7,8] (fun c _ _ W=>∃t:Nat,m≤t∧t≤n∧c=.int .i64 t∧BV W z bb n t n (.slice la n lc) X ln∧Chg (fun j=>z≤j) w W) (fun c _ _ _=>n-(RowKit.intOf c).toNat)
   case atStart=>exact⟨m,by omega,hmn,rfl,H2.out,HC1.out⟩
   case round=>
    obtain⟨t,hmt,ht,rfl,hb2,hc2⟩:=hrel;have HB:=hidY hb2;have HC2:=hidY hc2;clear hb2 hc2 H2;generalize wr=wp at *;have hcb0:=HB.out.b.cell
    by_cases htl:t<n
    ·have htI:(t:Int)<(n:Int):=by omega
     obtain⟨gl,cl',el,hcl0⟩:=HB.out.l.cell htl;cases el;obtain⟨xs0,ho0,hm0⟩:=HB.out.o t (Nat.le_refl _) htl;have hm0:=hm0 htl
     obtain⟨za,zc,ez,hzg⟩:∃a c,X t=.slice a (ln t) c∧(ln t=0∨∃g,a=some ⟨g,0,none⟩):=by
      rcases ho0.2 with ⟨e1,e2⟩|⟨g,c,_,e1,_⟩
      ·exact⟨none,0,by rw[e1,e2],.inl e2⟩
      ·exact⟨_,_,e1,.inr ⟨g,rfl⟩⟩
     have HEZ:=hidY ez;have HO0:=hidY ho0;rw[ez] at hcl0
     have hlnI:(ln t:Int)≤1073741824:=by have:=HB.out.s t htl;omega
     have hlnN:ln t≤1073741824:=HB.out.s t htl;have HZH:Hid (z≤wp.heap.size):=Nat.le_of_lt (Nat.lt_of_le_of_lt HB.out.zb HB.out.b.lt)
     have hat0:∀j,j<ln t→xs0[j]?=some (bv (mkY t j)):=fun j hj=>by rw[hm0];exact zRe hj
     have H3:Hid (A3 wp wp z 0 (.slice za (ln t) zc) (X t) (ln t) t):=⟨⟨xs0,by rw[←ez];exact ho0,hat0⟩,zQ9 ho0 (Nat.le_refl _) hat0 ⟨zc,za,ez,hzg.imp id (fun ⟨g,h⟩=>⟨g,h,by rw[ez,h];rfl⟩)⟩,fun g hg=>zAB ho0 hg,.inl (by rw[ez]),Chg.refl _ _⟩
     go_wp2_with fail
     clear hcb0 hcl0 ho0 hm0 hat0
     go_loopw [7,8] (fun x c W=>∃j:Nat,j≤64∧c=.int .i64 j∧A3 wp W z j x (X t) (ln t) t) (fun _ c _=>64-(RowKit.intOf c).toNat)
     case atStart=>exact⟨0,by omega,rfl,H3.out⟩
     case round=>
      obtain⟨j,hj,rfl,ha3⟩:=hrel;have HA3:=hidY ha3;obtain⟨xs,hxo,hxa⟩:=ha3.o;clear ha3 H3
      by_cases hjl:j<64
      ·have hjI:(j:Int)<64:=by omega
       obtain⟨i0,hi0,hz0,hz1,hz2⟩:=zWd;obtain⟨v8,w9,hrun,hrow8,hap8⟩:=zEi (P:=prog) (wr.alloc (.cells #[.int .u8 254] 5)) z 33 33 5 i0 _ 1 1 underlying33 hi0 hz0 hz1 hz2 rfl (by decide) u7 (ln t+j) xs (zYJ hxo ((G.refl _).alloc _)) ⟨wr.heap.size,0,none⟩ 1 [.int .u8 254] rfl (cell_one_new wr _ 5) (fun u hu=>by simp at hu;subst hu;rfl) (by unfold maxLen;omega) (by omega) (by have:=HZH.out;have:=HA3.out.c.size;simp;omega);have HRUN:=hidY hrun;have HA5:Hid (A3 wp w9 z (j+1) v8 (X t) (ln t) t):=HA3.out.step ((G.refl _).alloc _) hxa (by have:=hxo.1;omega) hrow8 hap8 (fun x hx=>zVJ HO0.out hx) ⟨zc,za,HEZ.out,hzg⟩;clear hrun hrow8 hap8 hi0 hz0 hz1 hz2 hxo hxa
       go_wp2_with (first|(at_builtin;refine zAX rfl _ _ 33 rfl u7 (.slice (some ⟨wr.heap.size,0,none⟩) 1 1) rfl rfl HRUN.out ?_)|fail)
       clear HRUN
       go_wp2
       go_roundw
       case rel=>exact⟨j+1,by omega,by go_num,HA5.out⟩
       case measure=>simp[RowKit.intOf];omega
      ·obtain rfl:j=64:=by omega
       have HNW:Hid (BV wr z bb n (t+1) n (.slice (some ⟨gl,0,none⟩) n lc) X ln∧Chg (fun j=>z≤j) w wr):=by
        refine⟨⟨HB.out.b.chg HA3.out.c (fun e=>zDV HO0.out HB.out.b (by decide) e),HB.out.l.chg HA3.out.c (fun g hg e=>zAT (zAB HO0.out e) (zAB HB.out.l hg) (by decide) rfl),HB.out.zb,fun s hs hn=>?_,fun s hs hn=>(HB.out.o s (by omega) hn).elim fun ys hy=>⟨ys,zBl hy.1 HA3.out.c (fun g hg e=>HB.out.d s t g hn htl (by omega) hg e),hy.2⟩,HB.out.d,fun s g hn hg=>⟨(HB.out.k s g hn hg).1,?_⟩,HB.out.s⟩,HC2.out.trans (HA3.out.c.mono (fun g hg=>(HB.out.k t g htl hg).1))⟩
        ·by_cases hst:s=t
         ·subst hst
          exact HA3.out.y
         ·exact(HB.out.e s (by omega) hn).chg HA3.out.c (fun g hg e=>HB.out.d s t g hn htl hst hg e)
        ·by_cases hst:s=t
         ·subst hst
          exact HA3.out.t g hg
         ·exact(HB.out.k s g hn hg).2.chg HA3.out.c (HB.out.d s t g hn htl hst hg)
       clear hxo hxa
       go_wp2
       go_roundw
       case rel=>exact⟨t+1,by omega,by omega,by go_num,HNW.out⟩
       case measure=>simp[RowKit.intOf];omega
    ·obtain rfl:t=n:=by omega
     go_wp2_with fail
     go_end0
     exact⟨rfl,HB.out,HC2.out⟩
end
section
open Go.RowKit
theorem G.drewNY{a w:World}(h:G a w)(n:Nat):G a (w.drewN n):=h.trans ⟨rfl,rfl,rfl,Nat.le_refl _,fun _ _=>rfl⟩
theorem zDG(z bb n:Nat)(lv:Value)(X:Nat→Value)(ln:Nat→Nat)(hn:n≤5864062014805)(w:World)(h:BV w z bb n n n lv X ln):CG 12 #[.pointer (some ⟨bb,0,none⟩)] w (.bool true):=by
 obtain⟨la,lc,elv⟩:=h.l.slice;subst elv;have H0:=hidY h;clear h
 go_enter func12,ntmps12
 go_wp2_with fail
 go_loopw [3,4] (fun c _ W=>∃i:Nat,i≤n∧c=.int .i64 i∧G w W) (fun c _ _=>n-(RowKit.intOf c).toNat)
 case atStart=>exact⟨0,by omega,rfl,G.refl _⟩
 case round=>
  obtain⟨i,hi,rfl,hg⟩:=hrel;have HG:=hidY hg;have H1:=hidY (H0.out.G hg);clear hg;generalize wr=wo at *;have hcb0:wo.cell? ⟨bb,0,none⟩=some (.slice la n lc):=H1.out.b.cell 0
  by_cases hlt:i<n
  ·have hiI:(i:Int)<(n:Int):=by omega
   obtain⟨gl,cl',el,hcl0⟩:=H1.out.l.cell hlt;cases el;obtain⟨za,zc,ez,hrd⟩:=H1.out.e i hlt hlt;rw[ez] at hcl0;have HRD:=hidY hrd;have HCB:=hidY hcb0;have HCL:=hidY hcl0;have hlnN:ln i≤1073741824:=H1.out.s i hlt;have HMK:=hidY (fun (j:Nat) (hj:j≤4611686018427387904)=>zMG i j (by omega) hj);clear hrd
   go_wp2_with fail
   clear hcb0 hcl0
   go_loopw [4] (fun c W=>∃j:Nat,j≤ln i∧c=.int .i64 j∧G wo W) (fun c _=>ln i-(RowKit.intOf c).toNat)
   case atStart=>exact⟨0,by omega,rfl,G.refl _⟩
   case round=>
    obtain⟨j,hj,rfl,hg⟩:=hrel;have HG2:=hidY hg;have hcl:=zBZ HCL.out hg.chg (F:=fun _=>False) (fun h=>h);have hcb:=zBZ HCB.out hg.chg (F:=fun _=>False) (fun h=>h);clear hg
    by_cases hjl:j<ln i
    ·have hjI:(j:Int)<(ln i:Int):=by omega
     obtain⟨g,ea,hcg0⟩:=HRD.out j hjl;subst ea;have hcg:=zBZ hcg0 HG2.out.chg (F:=fun _=>False) (fun h=>h);have HM:=hidY (HMK.out j (by omega));clear hcg0;generalize mkY i j=mm at hcg HM
     go_wp2_with fail
     go_quiet (first|(go_at_call 29;refine Calls.quiet_of_same (HM.out _)))
     clear hcl hcb hcg
     go_wp2
     go_roundw
     case rel=>exact⟨j+1,by omega,by go_num,HG2.out.drewNY _⟩
     case measure=>simp[RowKit.intOf];omega
    ·obtain rfl:j=ln i:=by omega
     go_wp2
     go_roundw
     case rel=>exact⟨i+1,by omega,by go_num,HG.out.trans HG2.out⟩
     case measure=>simp[RowKit.intOf];omega
  ·go_wp2
   go_ret;exact⟨rfl,HG.out⟩
theorem zNq:∃i,prog.info? 33=some i∧i.zero=some (.slice none 0 0)∧i.size=1∧i.bytes=24:=info_parts (by kernel_rfl)
theorem BV.push{W W':World}{z bb n m:Nat}{lv v' x:Value}{X:Nat→Value}{ln:Nat→Nat}{k:Nat}{xs:List Value}(h:BV W z bb n m m lv X ln)(hmn:m≤n)(hrow:W'.ownsRow z 33 1 v' (n+1) ((List.range n).map X++[x]))(hap:Ap W W' lv v')(hx:W.ownsRow z 5 1 x k xs)(hk:k≤1073741824)(hd:∀t g,t<n→(X t).ownBlock=some g→x.ownBlock≠some g) :
  BV (W'.setCell ⟨bb,0,none⟩ v') z bb (n+1) m m v' (upd X n x) (fun t=>if t=n then k else ln t)∧Chg (fun j=>j=bb∨lv.ownBlock=some j) W (W'.setCell ⟨bb,0,none⟩ v'):=by
 have cs:Chg (fun j=>j=bb) W' (W'.setCell ⟨bb,0,none⟩ v'):=zBp W' v' (.inl rfl);have hnb:lv.ownBlock≠some bb:=zDV h.l h.b (by decide);have hbl:=h.b.lt;have c:Chg (fun j=>j=bb∨lv.ownBlock=some j) W (W'.setCell ⟨bb,0,none⟩ v'):=(hap.chg.mono (fun j hj=>.inr hj)).trans (cs.mono (fun j hj=>.inl hj));have hob:∀g,v'.ownBlock=some g→g≠bb:=fun g hg e=>(hap.own hg).elim (fun e2=>hnb (e▸e2)) (fun e2=>by omega)
 have tn:∀g,TyB W g 5→¬(g=bb∨lv.ownBlock=some g):=fun g hg e=>by
  rcases e with e|e
  ·exact zAT hg ⟨_,_,h.b.h⟩ (by decide) e
  ·exact zAT hg (zAB h.l e) (by decide) rfl
 have u1:∀t,t<n→upd X n x t=X t:=fun t ht=>by unfold upd;rw[if_neg (by omega)]
 have u2:upd X n x n=x:=by unfold upd;rw[if_pos rfl]
 have l1:∀t,t<n→(if t=n then k else ln t)=ln t:=fun t ht=>by rw[if_neg (by omega)]
 refine⟨⟨(h.b.chg hap.chg (fun e=>hnb e)).set 0 v',(RowN.push hrow).chg cs (fun g hg e=>(hob g hg) e),h.zb,fun t ht hn=>?_,fun t ht hn=>?_,fun t s g ht hs hne hg=>?_,fun t g ht hg=>?_,fun t ht=>?_⟩,c⟩
 ·rw[u1 t (by omega),l1 t (by omega)]
  exact(h.e t ht (by omega)).chg c (fun g hg=>tn g (h.k t g (by omega) hg).2)
 ·by_cases htn:t=n
  ·subst htn
   rw[u2,if_pos rfl];exact⟨xs,zBl hx c (fun g hg=>tn g (zAB hx hg)),fun e=>by omega⟩
  ·rw[u1 t (by omega),l1 t (by omega)]
   obtain⟨ys,hy,hy2⟩:=h.o t ht (by omega);exact⟨ys,zBl hy c (fun g hg=>tn g (zAB hy hg)),hy2⟩
 ·by_cases htn:t=n
  ·subst htn
   rw[u2] at hg;rw[u1 s (by omega)];exact fun e=>hd s g (by omega) e hg
  ·rw[u1 t (by omega)] at hg
   by_cases hsn:s=n
   ·subst hsn
    rw[u2];exact hd t g (by omega) hg
   ·rw[u1 s (by omega)]
    exact h.d t s g (by omega) (by omega) hne hg
 ·by_cases htn:t=n
  ·subst htn
   rw[u2] at hg;exact⟨(World.ownsRow.lt hx g hg).1,(zAB hx hg).chg c (tn g (zAB hx hg))⟩
  ·rw[u1 t (by omega)] at hg
   exact⟨(h.k t g (by omega) hg).1,(h.k t g (by omega) hg).2.chg c (tn g (h.k t g (by omega) hg).2)⟩
 ·by_cases htn:t=n
  ·rw[if_pos htn];exact hk
  ·rw[if_neg htn];exact h.s t (by omega)
end
end Go.Proofs.YthmdjhfbhbheeaaGreatDoor
