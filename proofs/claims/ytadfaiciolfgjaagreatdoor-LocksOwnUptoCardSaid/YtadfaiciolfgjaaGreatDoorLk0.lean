import Derived.Test.YtadfaiciolfgjaaGreatDoorRows
import Derived.WalkKit
import Derived.WalkSpells
import Derived.WalkLawsBesides
import Derived.Deep.RegionWith
import Derived.Deep.RegionHeld3
import Derived.Deep.MidRow
import Derived.Laws.AppendOwn
import Derived.Laws.MakeOwn
import Derived.Laws.OwnMore
import Derived.OwnWalk
import Derived.Laws.ResultCell
namespace Go.Proofs.YtadfaiciolfgjaaGreatDoor
section
open Go.RowKit
theorem zzA{α:Type _}{l:List α}{i:Nat}(h:i<l.toArray.size):l.toArray[i]=l[i]'h:=rfl
theorem zzB{α:Type _}(a:α)(xs:List α)(h:0<(a::xs).length):(a::xs)[0]=a:=rfl
theorem zzC{α:Type _}(a:α)(xs:List α)(i:Nat)(h:i+1<(a::xs).length):(a::xs)[i+1]=xs[i]'(Nat.lt_of_succ_lt_succ h):=rfl
theorem zzD{α:Type _}(l:List α)(i:Nat)(a:α):l.toArray.setIfInBounds i a=(l.set i a).toArray:=List.setIfInBounds_toArray l i a
theorem zzE{α:Type _}{x:α}{xs:List α}{a:α}:(x::xs).set 0 a=a::xs:=rfl
theorem zzF{α:Type _}{x:α}{xs:List α}{i:Nat}{a:α}:(x::xs).set (i+1) a=x::xs.set i a:=rfl
theorem hide{p:Prop}(h:p):Hid p:=h
abbrev I(n:Int):Value:=.int .i64 n
def G(a w:World):Prop:=Below a.heap.size a w
theorem G.refl(a:World):G a a:=Below.refl _ _
theorem G.trans{a b c:World}(h:G a b)(k:G b c):G a c:=Below.trans h (Below.mono k h.size)
theorem G.alloc{a w:World}(h:G a w)(o:Obj):G a (w.alloc o):=Below.alloc h h.size o
theorem G.drew{a w:World}(h:G a w):G a w.drew:=Below.drew h
theorem G.setCell{a w:World}(h:G a w){p:Addr}(hp:a.heap.size≤p.block)(u:Value):G a (w.setCell p u):=Below.setCell h hp u
theorem G.size{a w:World}(h:G a w):a.heap.size≤w.heap.size:=Below.size h
theorem G.cell{a w:World}(h:G a w){b o:Nat}(hb:b<a.heap.size):w.cell? ⟨b,o,none⟩=a.cell? ⟨b,o,none⟩:=Below.cell h (p:=⟨b,o,none⟩) hb
theorem G.frozen{a w:World}(h:G a w){b o:Nat}(hb:b<a.heap.size):w.frozen? ⟨b,o,none⟩=a.frozen? ⟨b,o,none⟩:=Below.frozen h (p:=⟨b,o,none⟩) hb
theorem G.cells{a w:World}(h:G a w){b:Nat}{f:Nat→Option Value}(hc:∀o,a.cell? ⟨b,o,none⟩=f o)(hb:b<a.heap.size):∀o,w.cell? ⟨b,o,none⟩=f o:=
 fun o=>(Below.cell h (p:=⟨b,o,none⟩) hb).trans (hc o)
theorem G.setCells{a:World}:∀(vs:List Value) {w:World} (_:G a w) {b o:Nat} (_:a.heap.size≤b),G a (w.setCells b o vs)
 | [],_,h,_,_,_=>h
 | v::vs,_,h,_,_,hb=>G.setCells vs (h.setCell hb v) hb
theorem setCells_size(b:Nat):∀(vs:List Value) (w:World) (o:Nat),(w.setCells b o vs).heap.size=w.heap.size
 | [],_,_=>rfl
 | v::vs,w,o=>by rw[World.setCells,setCells_size b vs];simp
theorem setCells_other(b k:Nat)(hk:k≠b):∀(vs:List Value) (w:World) (o:Nat),(w.setCells b o vs).heap[k]?=w.heap[k]?
 | [],_,_=>rfl
 | v::vs,w,o=>by rw[World.setCells,setCells_other b k hk vs];exact Below.heap_setCell _ _ _ _ hk
structure Chg(F:Nat→Prop)(w w':World):Prop where
 os:w'.os=w.os
 tape:w'.tape=w.tape
 output:w'.output=w.output
 size:w.heap.size≤w'.heap.size
 block:∀k,k<w.heap.size→¬F k→w'.heap[k]?=w.heap[k]?
theorem Chg.refl(F:Nat→Prop)(w:World):Chg F w w:=⟨rfl,rfl,rfl,Nat.le_refl _,fun _ _ _=>rfl⟩
theorem Chg.trans{F:Nat→Prop}{a b c:World}(h:Chg F a b)(k:Chg F b c):Chg F a c:=
 ⟨k.os.trans h.os,k.tape.trans h.tape,k.output.trans h.output,Nat.le_trans h.size k.size,fun i hi hn=>(k.block i (Nat.lt_of_lt_of_le hi h.size) hn).trans (h.block i hi hn)⟩
theorem Chg.more{F F':Nat→Prop}{a b c:World}(h:Chg F a b)(k:Chg F' b c)(hF:∀i,i<a.heap.size→F' i→F i):Chg F a c:=
 ⟨k.os.trans h.os,k.tape.trans h.tape,k.output.trans h.output,Nat.le_trans h.size k.size,fun i hi hn=>(k.block i (Nat.lt_of_lt_of_le hi h.size) (fun x=>hn (hF i hi x))).trans (h.block i hi hn)⟩
theorem Chg.mono{F F':Nat→Prop}{a b:World}(h:Chg F a b)(hF:∀i,F i→F' i):Chg F' a b:=⟨h.os,h.tape,h.output,h.size,fun i hi hn=>h.block i hi (fun x=>hn (hF i x))⟩
theorem Chg.G{F:Nat→Prop}{a b:World}(h:Chg F a b)(hF:∀i,F i→a.heap.size≤i):G a b:=⟨h.os,h.tape,h.output,h.size,fun k hk=>h.block k hk (fun x=>by have:=hF k x;omega)⟩
theorem G.chg{F:Nat→Prop}{a b:World}(h:Go.Proofs.YtadfaiciolfgjaaGreatDoor.G a b):Chg F a b:=⟨h.os,h.tape,h.output,h.size,fun k hk _=>h.block k hk⟩
theorem chg_setCell{F:Nat→Prop}{b o:Nat}(w:World)(v:Value)(hb:F b∨w.heap.size≤b):Chg F w (w.setCell ⟨b,o,none⟩ v):=
 ⟨rfl,rfl,rfl,by simp,fun k hk hn=>Below.heap_setCell _ _ _ _ (fun e=>by subst e;rcases hb with h|h;exact hn h;exact absurd hk (Nat.not_lt.2 h))⟩
theorem chg_setCells{F:Nat→Prop}{b o:Nat}(w:World)(vs:List Value)(hb:F b∨w.heap.size≤b):Chg F w (w.setCells b o vs):=by
 have hos:∀(vs:List Value) (w:World) (o:Nat),(w.setCells b o vs).os=w.os∧(w.setCells b o vs).tape=w.tape∧(w.setCells b o vs).output=w.output:=by
  intro vs;induction vs with
  | nil=>intros;exact⟨rfl,rfl,rfl⟩
  | cons v vs ih=>intro w o;rw[World.setCells];exact ih _ _
 refine⟨(hos vs w o).1,(hos vs w o).2.1,(hos vs w o).2.2,by rw[setCells_size];exact Nat.le_refl _,fun k hk hn=>setCells_other b k (fun e=>by subst e;rcases hb with h|h;exact hn h;omega) _ _ _⟩
structure Blk(w:World)(g:Nat)(e:TypeId)(xs:List Value):Prop where
 h:w.heap[g]?=some (.cells xs.toArray e (0,0))
theorem Blk.lt{w:World}{g:Nat}{e:TypeId}{xs:List Value}(h:Blk w g e xs):g<w.heap.size:=(Array.getElem?_eq_some_iff.1 h.h).1
theorem Blk.cell{w:World}{g:Nat}{e:TypeId}{xs:List Value}(h:Blk w g e xs):∀o,w.cell? ⟨g,o,none⟩=xs[o]?:=fun o=>by
 simp[World.cell?,h.h]
theorem Blk.frozen{w:World}{g:Nat}{e:TypeId}{xs:List Value}(h:Blk w g e xs):∀o,w.frozen? ⟨g,o,none⟩=false:=fun o=>by
 simp[World.frozen?,h.h]
theorem Blk.keep{w w':World}{g:Nat}{e:TypeId}{xs:List Value}(h:Blk w g e xs)(hb:w'.heap[g]?=w.heap[g]?):Blk w' g e xs:=⟨hb.trans h.h⟩
theorem Blk.G{w w':World}{g:Nat}{e:TypeId}{xs:List Value}(h:Blk w g e xs)(k:Go.Proofs.YtadfaiciolfgjaaGreatDoor.G w w'):Blk w' g e xs:=h.keep (k.block g h.lt)
theorem Blk.chg{F:Nat→Prop}{w w':World}{g:Nat}{e:TypeId}{xs:List Value}(h:Blk w g e xs)(k:Chg F w w')(hF:¬F g):Blk w' g e xs:=h.keep (k.block g h.lt hF)
theorem Blk.new(w:World)(xs:List Value)(e:TypeId):Blk (w.alloc (.cells xs.toArray e)) w.heap.size e xs:=⟨heap_alloc_new w _⟩
theorem Blk.set{w:World}{g:Nat}{e:TypeId}{xs:List Value}(h:Blk w g e xs)(o:Nat)(v:Value):Blk (w.setCell ⟨g,o,none⟩ v) g e (xs.set o v):=by
 exact⟨by simp[World.setCell,Array.getElem?_modify,h.h]⟩
theorem Blk.sets{g:Nat}{e:TypeId}:∀(vs:List Value) {w:World} {xs:List Value} (_:Blk w g e xs) (o:Nat) (_:o+vs.length≤xs.length),Blk (w.setCells g o vs) g e (xs.take o++vs++xs.drop (o+vs.length))
 | [],w,xs,h,o,_=>by simpa [World.setCells] using h
 | v::vs,w,xs,h,o,hl=>by
  rw[World.setCells]
  have h1:=Blk.sets vs (h.set o v) (o+1) (by simp at hl ⊢;omega)
  have e1:(xs.set o v).take (o+1)++vs++(xs.set o v).drop (o+1+vs.length)=xs.take o++(v::vs)++xs.drop (o+(v::vs).length):=by
   have hlt:o<xs.length:=by simp at hl;omega
   apply List.ext_getElem?
   intro j
   simp only[List.length_cons]
   by_cases c1:j<o
   ·rw[List.append_assoc,List.getElem?_append_left (by simp;omega),List.append_assoc,List.getElem?_append_left (by simp;omega)]
    rw[List.getElem?_take,List.getElem?_take,if_pos (by omega),if_pos c1,List.getElem?_set_ne (by omega)]
   ·by_cases c2:j=o
    ·subst c2
     rw[List.append_assoc,List.getElem?_append_left (by simp;omega),List.getElem?_take,if_pos (by omega),List.getElem?_set_self hlt]
     rw[List.append_assoc,List.getElem?_append_right (by simp;omega)]
     simp[Nat.min_eq_left (Nat.le_of_lt hlt)]
    ·by_cases c3:j<o+1+vs.length
     ·rw[List.append_assoc,List.getElem?_append_right (by simp;omega),List.getElem?_append_left (by simp at hl ⊢;omega)]
      rw[List.append_assoc,List.getElem?_append_right (by simp;omega),List.getElem?_append_left (by simp;omega)]
      have:(xs.take o).length=o:=by simp;omega
      have h2:((xs.set o v).take (o+1)).length=o+1:=by simp;omega
      rw[this,h2,show j-o=(j-(o+1))+1 by omega,List.getElem?_cons_succ]
     ·have h2:((xs.set o v).take (o+1)++vs).length=o+1+vs.length:=by simp;omega
      have h3:(xs.take o++v::vs).length=o+1+vs.length:=by simp;omega
      rw[List.getElem?_append_right (by omega),List.getElem?_append_right (by omega),h2,h3,List.getElem?_drop,List.getElem?_drop,List.getElem?_set_ne (by omega),show o+(vs.length+1)=o+1+vs.length by omega]
  rw[e1] at h1
  exact h1
theorem Blk.drew{w:World}{g:Nat}{e:TypeId}{xs:List Value}(h:Blk w g e xs):Blk w.drew g e xs:=⟨h.h⟩
theorem Blk.off{w:World}{g b o:Nat}{e:TypeId}{xs:List Value}{v:Value}(h:Blk w g e xs)(hn:g≠b):Blk (w.setCell ⟨b,o,none⟩ v) g e xs:=h.keep (Below.heap_setCell _ _ _ _ hn)
theorem Blk.ne{w:World}{g g':Nat}{e e':TypeId}{xs xs':List Value}(h:Blk w g e xs)(h':Blk w g' e' xs')(hne:e≠e'):g≠g':=fun he=>by
 subst he
 have h1:=h.h
 rw[h'.h] at h1
 simp at h1
 exact hne h1.2.symm
theorem Blk.there{w:World}{g:Nat}{e:TypeId}{xs:List Value}(h:Blk w g e xs)(o n:Nat)(hl:o+n≤xs.length):w.there g o n:=fun j hj=>⟨by rw[h.cell,List.getElem?_eq_getElem (by omega)];rfl,h.frozen _⟩
theorem Blk.range{w:World}{g:Nat}{e:TypeId}{xs:List Value}(h:Blk w g e xs)(o n:Nat):w.rangeAt g o ((xs.drop o).take n):=fun j v hv=>by
 rw[h.cell]
 rw[List.getElem?_take] at hv
 split at hv
 ·rw[List.getElem?_drop] at hv;exact hv
 ·cases hv
theorem Blk.type{w:World}{g:Nat}{e e':TypeId}{xs xs':List Value}(h:Blk w g e xs)(h':Blk w g e' xs'):e=e'∧xs=xs':=by
 have h1:=h.h
 rw[h'.h] at h1
 simp at h1
 exact⟨h1.2.symm,h1.1.symm⟩
theorem own_ne{w:World}{b e s n g:Nat}{v:Value}{xs:List Value}{e':TypeId}{ys:List Value}(h:w.ownsRow b e s v n xs)(h':Blk w g e' ys)(hne:e≠e'):v.ownBlock≠some g:=by
 rcases h.2 with ⟨rfl,_⟩|⟨g',cap,cur,rfl,_,hg,_⟩
 ·simp[Value.ownBlock]
 ·intro he
  simp[Value.ownBlock] at he
  subst he
  have h1:=h'.h
  rw[hg] at h1
  simp at h1
  exact hne h1.2
theorem own_chg{F:Nat→Prop}{w w':World}{b e s n:Nat}{v:Value}{xs:List Value}(h:w.ownsRow b e s v n xs)(k:Chg F w w')(hF:∀g,v.ownBlock=some g→¬F g):w'.ownsRow b e s v n xs:=by
 refine⟨h.1,?_⟩
 rcases h.2 with hn|⟨g,cap,cur,rfl,hb,hgg,rest⟩
 ·exact .inl hn
 ·refine .inr ⟨g,cap,cur,rfl,hb,?_,rest⟩
  rw[k.block g (Array.getElem?_eq_some_iff.1 hgg).1 (hF g rfl)]
  exact hgg
theorem own_G{w w':World}{b e s n:Nat}{v:Value}{xs:List Value}(h:w.ownsRow b e s v n xs)(k:G w w'):w'.ownsRow b e s v n xs:=own_chg (F:=fun _=>False) h k.chg (fun _ _=>id)
theorem own_lt{w:World}{b e s n g:Nat}{v:Value}{xs:List Value}(h:w.ownsRow b e s v n xs)(hg:v.ownBlock=some g):g<w.heap.size:=(World.ownsRow.lt h g hg).2
def fitT:List Bool:=[false,false,false,false,false,false,false,true,true,true,true,false,false,true,true,false,false,false,false,true,false,true,false,false,false,true,false,false,false,false,false,false,false,false,false,false]
def joinT:List Int:=[0,1,2,3,4,5,1,1,2,3,4,5,2,2,2,4,4,5,3,3,4,3,4,5,4,4,4,4,4,5,5,5,5,5,5,5]
structure Tb(w:World):Prop where
 lf:1<w.heap.size
 lj:0<w.heap.size
 f:∀i,i<36→w.cell? ⟨1,i,none⟩=some (.bool (fitT.getD i false))
 j:∀i,i<36→w.cell? ⟨0,i,none⟩=some (I (joinT.getD i 0))
theorem Tb.G{w w':World}(h:Tb w)(g:G w w'):Tb w':=
 ⟨Nat.lt_of_lt_of_le h.lf g.size,Nat.lt_of_lt_of_le h.lj g.size,fun i hi=>(g.cell h.lf).trans (h.f i hi),fun i hi=>(g.cell h.lj).trans (h.j i hi)⟩
def modeB(a:Int):Bool:=decide (1≤a)&&decide (a≤5)
def fitB(a b:Int):Bool:=modeB a&&modeB b&&fitT.getD (a.toNat*6+b.toNat) false
def joinI(a b:Int):Int:=if (a=0∨modeB a=true)∧(b=0∨modeB b=true)then joinT.getD (a.toNat*6+b.toNat) 0 else 0
end
end Go.Proofs.YtadfaiciolfgjaaGreatDoor
