import Derived.Sort.OwnSortedInts
import Derived.Shelf.SortM.Plain
import Derived.Shelf.SortM.SortNone
import Derived.Test.YtoefbpldmlebdaaGreatDoorShSo
import Derived.Test.YtoefbpldmlebdaaGreatDoorLk19
namespace Go.Proofs.YtoefbpldmlebdaaGreatDoor
open Go.Proofs.Tryz
section
open Go.RowKit Go.Sort Go.Shelf
def srt(zs:List Int):List Int:=zs.mergeSort fun x y=>decide (x≤y)
theorem srt_len(zs:List Int):(srt zs).length=zs.length:=by unfold srt;exact List.length_mergeSort _
theorem srt_perm(zs:List Int):(srt zs).Perm zs:=List.mergeSort_perm _ _
theorem srt_up(zs:List Int):(srt zs).Pairwise (·≤·):=by
 have:=List.pairwise_mergeSort (le:=fun x y:Int=>decide (x≤y)) (fun a b c h1 h2=>by simp at *;omega) (fun a b=>by simp;omega) zs
 exact this.imp (fun h=>by simpa using h)
theorem sort_row(W:World)(lo:Nat)(v:Value)(zs:List Int)(h:W.ownsRow lo 3 1 v zs.length (zs.map fun z=>I z))(hl:zs.length<4611686018427387904) :
  Calls prog 77 #[v] W fun e W'=>e=.returned (.tuple #[])∧W'.ownsRow lo 3 1 v zs.length ((srt zs).map fun z=>I z)∧Chg (fun k=>v.ownBlock=some k) W W':=by
 rcases h.2 with ⟨rfl,h0⟩|⟨g,cap,cur,rfl,hlo,hg,hc,hm,hs,ht⟩
 ·have hz:zs=[]:=List.eq_nil_of_length_eq_zero h0
  subst hz
  refine(AnyM.slices_Sort_int_none Tryz.sortI none 0 W).mono ?_
  rintro e W' ⟨rfl,rfl⟩
  have e:srt []=[]:=List.eq_nil_of_length_eq_zero (srt_len [])
  rw[e]
  exact⟨rfl,h,Chg.refl _ _⟩
 ·have hH:Holds (Value.int .i64) W g 0 zs.toArray:=holds_of_blockI hg (by rw[Nat.mul_one] at ht;exact ht)
  refine(AnyM.slices_Sort_int Tryz.sortI g 0 cap zs W hH (Array.getElem?_eq_some_iff.1 hg).1 hl).mono ?_
  rintro e W' ⟨rfl,n,os,rfl⟩
  refine⟨rfl,ownsRow_sortedI (ss:=zs) (ts:=srt zs) (srt_len zs) hlo hg hc hm hs,?_⟩
  have hgr:=grownBy_sortedI (w:=W) (g:=g) (n:=n) (os:=os) (srt zs).toArray
  exact⟨hgr.os,hgr.tape,hgr.output,hgr.size,fun k hk hn=>hgr.block k hk (fun e=>hn e.symm)⟩
end
end Go.Proofs.YtoefbpldmlebdaaGreatDoor
