import Derived.Lib.BitFns
import Derived.Laws.AppendOwn
import Derived.OwnWalk
import Derived.Test.YthmdjhfbhbheeaaGreatDoorEnc1
namespace Go.Proofs.YthmdjhfbhbheeaaGreatDoor
open Go.Proofs.Tryz
section
open Go.RowKit
theorem zNY(f x:Nat)(h:x<2^f):x<2^Lib.bitLenAux f x∧(x≠0→2^Lib.bitLenAux f x≤2*x):=by
 induction f generalizing x with
 | zero=>
  have:x=0:=by simpa using h
  subst this;simp[Lib.bitLenAux]
 | succ f ih=>
  by_cases h0:x=0
  ·subst h0;simp[Lib.bitLenAux]
  ·have:=ih (x/2) (by rw[Nat.pow_succ] at h;omega)
   simp only[Lib.bitLenAux,h0,if_false];rw[Nat.add_comm 1,Nat.pow_succ];refine⟨by omega,fun _=>?_⟩
   by_cases h1:x/2=0
   ·rw[h1]
    have:Lib.bitLenAux f 0=0:=by cases f<;>simp[Lib.bitLenAux]
    rw[this];omega
   ·have:=this.2 h1;omega
theorem zNH(m:Nat):m<256^(digs m).length∧(m≠0→256^(digs m).length≤256*m):=by
 induction m using Nat.strongRecOn with
 | _ m ih=>
  by_cases h:m=0
  ·subst h;rw[zBi];simp
  ·have:=ih (m/256) (by omega)
   rw[zCj h,List.length_cons,Nat.pow_succ];refine⟨by omega,fun _=>?_⟩
   by_cases h1:m/256=0
   ·rw[h1,zBi];simp;omega
   ·have:=this.2 h1;omega
theorem zGY(m:Nat)(h:m<2^64):(digs m).length=(Lib.bitLen m+7)/8:=by
 obtain⟨a1,a2⟩:=zNY 64 m h;obtain⟨b1,b2⟩:=zNH m;unfold Lib.bitLen
 by_cases h0:m=0
 ·subst h0;rw[zBi];simp[Lib.bitLenAux]
 ·have a2:=a2 h0;have b2:=b2 h0
  generalize Lib.bitLenAux 64 m=b at a1 a2;generalize (digs m).length=L at b1 b2
  have e:(256:Nat)^L=2^(8*L):=by rw[Nat.pow_mul]
  rw[e] at b1 b2;have c1:b<8*L+1:=(Nat.pow_lt_pow_iff_right (a:=2) (by decide)).1 (by rw[Nat.pow_succ];omega);have c2:8*L<b+8:=(Nat.pow_lt_pow_iff_right (a:=2) (by decide)).1 (by rw[Nat.pow_add];omega);omega
structure Bw(w0 W:World)(x:Value)(xs:List Nat):Prop where
 g:G w0 W
 own:W.ownsRow w0.heap.size 5 1 x xs.length (xs.map bv)
theorem G.grownE{w w':World}(g:G w w'):w.grownBy w' none:=⟨g.os,g.tape,g.output,g.size,fun k hk _=>g.block k hk⟩
theorem zVK{w w':World}{base:Nat}{e:TypeId}{size:Nat}{v:Value}{n:Nat}{xs:List Value}(h:w.ownsRow base e size v n xs)(g:G w w'):w'.ownsRow base e size v n xs:=
 h.kept g.grownE (by cases h2:v.ownBlock<;>simp)
theorem Bw.keep{w0 W W':World}{x:Value}{xs:List Nat}(h:Bw w0 W x xs)(g:G W W'):Bw w0 W' x xs:=⟨h.g.trans g,zVK h.own g⟩
theorem Bw.down{w0 w1 W:World}{x:Value}{xs:List Nat}(h:Bw w1 W x xs)(g:G w0 w1):Bw w0 W x xs:=by
 refine⟨g.trans h.g,h.own.1,?_⟩
 rcases h.own.2 with h2|⟨k,cap,cur,e,hk,r⟩
 ·exact .inl h2
 ·exact .inr ⟨k,cap,cur,e,Nat.le_trans g.size hk,r⟩
theorem Bw.nil(w0 W:World)(g:G w0 W):Bw w0 W (.slice none 0 0) []:=⟨g,World.ownsRow_nil _ _ _ _⟩
theorem Bw.app{w0 W:World}{x:Value}{xs:List Nat}(h:Bw w0 W x xs){v':Value}{w':World}(news:List Nat)(m:Nat)(hm:m=news.length)
  (h1:w'.ownsRow w0.heap.size 5 1 v' (xs.length+m) (xs.map bv++news.map bv)) (h2:W.grownBy w' x.ownBlock):Bw w0 w' v' (xs++news):=by
 refine⟨Below.grown h.g h2 h.g.size (fun g hg=>(World.ownsRow.lt h.own g hg).1),?_⟩;rw[List.length_append,List.map_append,←hm];exact h1
theorem Bw.fresh{w0 W:World}(g:G w0 W)(xs:List Nat)(cur:Array Value)(hcur:cur.toList=xs.map bv)(hne:xs.length≤maxLen):Bw w0 (W.alloc (.cells cur 5)) (.slice (some ⟨W.heap.size,0,none⟩) xs.length xs.length) xs:=by
 refine⟨g.alloc _,by simp,.inr ⟨W.heap.size,xs.length,cur,rfl,g.size,Array.getElem?_push_size,Nat.le_refl _,hne,?_,?_⟩⟩
 ·have:=congrArg List.length hcur
  simpa using this
 ·rw[hcur,Nat.mul_one];exact List.take_of_length_le (by simp)
theorem Bw.at{w0 W:World}{x:Value}{xs:List Nat}(h:Bw w0 W x xs):(x=.slice none 0 0∧xs=[])∨∃g cap,x=.slice (some ⟨g,0,none⟩) xs.length cap∧w0.heap.size≤g∧g<W.heap.size∧xs.length≤cap∧∀i d,xs[i]?=some d→W.cell? ⟨g,i,none⟩=some (bv d):=by
 rcases h.own.2 with ⟨rfl,hn⟩|⟨g,cap,cur,rfl,hg,hh,hc,_,hs,ht⟩
 ·exact .inl ⟨rfl,List.eq_nil_of_length_eq_zero hn⟩
 ·refine .inr ⟨g,cap,rfl,hg,(World.ownsRow.lt h.own g rfl).2,hc,fun i d hi=>?_⟩
  have:=h.own.cells (g:=g) rfl i (bv d) (by rw[List.getElem?_map,hi];rfl)
  have e:(⟨g,0,none⟩:Addr).add i=⟨g,i,none⟩:=by
   by_cases c:i=0
   ·subst c;rfl
   ·simp[Addr.add,c]
  rw[e] at this;exact this
theorem zAW:(prog.info? 5).map (fun i=>(i.zero,i.size,i.bytes))=some (some (.int .u8 0),1,1):=by kernel_rfl
end
end Go.Proofs.YthmdjhfbhbheeaaGreatDoor
