import Derived.Laws.AppendOwnNone
import Derived.Lib.ItoaNum
import Derived.Lib.ParseIntB
import Derived.Test.YthmdjhfbhbheeaaGreatDoorFold8
namespace Go.Proofs.YthmdjhfbhbheeaaGreatDoor
open Go.Proofs.Tryz
set_option maxHeartbeats 4000000
set_option maxRecDepth 100000
section
open Go.RowKit Go.Lib Go.Shelf
attribute [local go_sem] eqV neqV
def mks(m:Nat):List Qd:=(List.range m).map fun (i:Nat)=>((77:Int),(i:Int),(0:Int),E0)
theorem mks_snoc(m:Nat):mks (m+1)=mks m++[(77,(m:Int),0,E0)]:=by
 unfold mks
 rw[List.range_succ,List.map_append]
 rfl
theorem flat_one(L:List Qd):∀u∈flat L,u.oneCell'=true:=fun u hu=>by
 unfold flat at hu
 obtain⟨q,_,hq⟩:=List.mem_flatMap.1 hu
 simp at hq
 rcases hq with rfl|rfl|rfl|rfl<;>rfl
theorem own_all{w:World}{base:Nat}{e:TypeId}{y:Value}{L:List Qd}(h:w.ownsRow base e 4 y (L++mks 3).length (flat (L++mks 3))) :
  ∃g cap,y=.slice (some ⟨g,0,none⟩) (L.length+3) cap∧base≤g∧L.length+3≤cap∧VRow w (.slice (some ⟨g,0,none⟩) (L.length+3) cap) (L++mks 3):=by
 have hl:(L++mks 3).length=L.length+3:=by simp[mks]
 have hv:=own_vrow h
 rcases h.2 with ⟨_,hn⟩|⟨g,cap,cur,rfl,hb,hh,hc,_⟩
 ·omega
 ·rw[hl] at hc hv⊢
  exact⟨g,cap,rfl,hb,hc,hv⟩
theorem vrow_prefix{w:World}{b off n cap:Nat}{L M:List Qd}(h:VRow w (.slice (some ⟨b,off,none⟩) n cap) (L++M))(hc:L.length≤cap):VRow w (.slice (some ⟨b,off,none⟩) L.length cap) L:=by
 rcases h with ⟨h,_⟩|⟨b',off',cap',he,_,hcell⟩
 ·cases h
 ·injection he with h1 h2 h3
  injection h1 with h1
  injection h1 with h4 h5
  subst h4 h5 h3
  exact .inr ⟨b,off,cap,rfl,hc,fun i q hi j hj=>hcell i q (by rw[List.getElem?_append_left (List.getElem?_eq_some_iff.1 hi).1];exact hi) j hj⟩
def W8P(w w3:World)(B6 B8:Nat)(f:Nat→Option Value)(qk qa qb:Int)(qs:ByteArray)(W:World):Prop:=G w3 W∧(∀(o:Nat),W.cell? {block:=w.heap.size,off:=o}=f o)∧(∀(o:Nat),W.cell? {block:=B6,off:=o}=[I qk,I qa,I qb,Value.string qs][o]?)∧(∀(o:Nat),W.cell? {block:=B8,off:=o}=[I qk,I qa,I qb,Value.string qs][o]?)∧w.heap.size<W.heap.size∧B6<W.heap.size∧B8<W.heap.size
theorem W8P.keep{w w3 W W':World}{B6 B8:Nat}{f:Nat→Option Value}{qk qa qb:Int}{qs:ByteArray}(g:G W W')(h:W8P w w3 B6 B8 f qk qa qb qs W):W8P w w3 B6 B8 f qk qa qb qs W':=
 ⟨h.1.trans g,G.cells g h.2.1 h.2.2.2.2.1,G.cells g h.2.2.1 h.2.2.2.2.2.1,G.cells g h.2.2.2.1 h.2.2.2.2.2.2,Nat.lt_of_lt_of_le h.2.2.2.2.1 g.size,Nat.lt_of_lt_of_le h.2.2.2.2.2.1 g.size,Nat.lt_of_lt_of_le h.2.2.2.2.2.2 g.size⟩
theorem folds_some(kind op k a b:Int)(s:ByteArray)(k' a' b':Int)(s':ByteArray)(st tt:ByteArray)(bb:Value)(n x y o1 o2:Int)(cap:Nat)(L:List Qd)(w:World)(ad:Addr)(hfl:∀j u,(flat L)[j]?=some u→w.cell? (ad.add j)=some u)
  (hV:L=[]∨VRow w (.slice (some ad) L.length cap) L) (hn:L.length*40≤140737488351232) (q:Qd) (c:Int)
  (hA:∀W x,G w W→VRow W x L→Calls prog 53 #[.int .i64 op,x] W fun e w'=>e=.returned (.tuple #[q.W,.int .i64 c])∧G W w') (hB:∀W,G w W→Calls prog 54 #[.int .i64 op,.slice (some ad) L.length cap] W fun e w'=>e=.returned (.tuple #[q.W,.int .i64 c])∧G W w') :
  Calls prog 20 #[.agg #[I kind,I op,I k,I a,I b,.string s,I k',I a',I b',.string s',.slice (some ad) L.length cap,.string st,.string tt,bb,I n,I x,I y,I o1,I o2]] w fun e w'=>e=.returned (.bool true)∧G w w':=by
 obtain⟨i0,hi,hz0,hz1,hz2⟩:=info_parts info_val
 have HA:Hid _:=hA
 have HB:Hid _:=hB
 have HV:Hid _:=hV
 have HFL:Hid _:=hfl
 clear hA hB hV hfl
 obtain⟨qk,qa,qb,qs⟩:=q
 go_enter func20,ntmps20
 go_wp2_with (at_builtin;refine wpList_append_own _ rfl _ _ 32 rfl (w.alloc (.cells #[I kind,I op,I k,I a,I b,.string s,I k',I a',I b',.string s',.slice (some ad) L.length cap,.string st,.string tt,bb,I n,I x,I y,I o1,I o2] 35)).heap.size 31 i0 V0 4 40 underlying32 hi hz0 hz1 hz2 rfl (by decide) _ _ _ rfl (World.ownsRow_nil _ _ _ _) ad L.length cap (flat L) rfl (flat_len L) ?c1 ?c2 ?c3 ?c4 ?c5 ?_)
 case c1=>
  intro j u hj
  have h:=HFL.out j u hj
  exact(Below.cell ((G.refl w).alloc _) (World.block_lt_of_cell? w _ h)).trans h
 case c2=>exact flat_one L
 case c3=>unfold maxLen;omega
 case c4=>omega
 case c5=>first|exact Nat.le_refl _|simp
 intro x3 w2 hown2 hgrow _
 have HG2:Hid (G (w.alloc (.cells #[I kind,I op,I k,I a,I b,.string s,I k',I a',I b',.string s',.slice (some ad) L.length cap,.string st,.string tt,bb,I n,I x,I y,I o1,I o2] 35)) w2):=Below.grown (G.refl _) hgrow (Nat.le_refl _) (fun g hg=>by cases hg)
 have HO2:Hid (w2.ownsRow (w.alloc (.cells #[I kind,I op,I k,I a,I b,.string s,I k',I a',I b',.string s',.slice (some ad) L.length cap,.string st,.string tt,bb,I n,I x,I y,I o1,I o2] 35)).heap.size 31 4 x3 (L++mks 0).length (flat (L++mks 0))):=by
  unfold Hid
  have es:(w.alloc (.cells #[I kind,I op,I k,I a,I b,.string s,I k',I a',I b',.string s',.slice (some ad) L.length cap,.string st,.string tt,bb,I n,I x,I y,I o1,I o2] 35)).heap.size=w.heap.size+1:=by simp
  rw[show L++mks 0=L from List.append_nil L,es]
  first|exact hown2|(rw[Nat.zero_add] at hown2;exact hown2)
 clear hown2 hgrow
 go_wp2
 go_loopw [3,4] (fun yy i W=>∃m:Nat,m≤3∧i=.int .i64 m∧Hid (G (w.alloc (.cells #[I kind,I op,I k,I a,I b,.string s,I k',I a',I b',.string s',.slice (some ad) L.length cap,.string st,.string tt,bb,I n,I x,I y,I o1,I o2] 35)) W)∧Hid (W.ownsRow (w.alloc (.cells #[I kind,I op,I k,I a,I b,.string s,I k',I a',I b',.string s',.slice (some ad) L.length cap,.string st,.string tt,bb,I n,I x,I y,I o1,I o2] 35)).heap.size 31 4 yy (L++mks m).length (flat (L++mks m)))) (fun _ i _=>3-(RowKit.intOf i).toNat)
 case atStart=>exact⟨0,by omega,rfl,HG2.out,HO2.out⟩
 case round=>
  obtain⟨m,hm,rfl,HG,HO⟩:=hrel
  clear HG2 HO2
  by_cases hlt:m<3
  ·have hlt3:(m:Int)<3:=by omega
   have hle:(L++mks m).length=L.length+m:=by simp[mks]
   go_wp2_with (at_builtin;refine wpList_append_own _ rfl _ _ 32 rfl (w.alloc (.cells #[I kind,I op,I k,I a,I b,.string s,I k',I a',I b',.string s',.slice (some ad) L.length cap,.string st,.string tt,bb,I n,I x,I y,I o1,I o2] 35)).heap.size 31 i0 V0 4 40 underlying32 hi hz0 hz1 hz2 rfl (by decide) _ _ _ rfl (World.ownsRow.alloc HO.out _) ⟨wr.heap.size,0,none⟩ 1 1 [I 77,I m,I 0,.string E0] rfl rfl ?c1 ?c2 ?c3 ?c4 ?c5 ?_)
   case c1=>
    intro j u hj
    match j,hj with
    | 0,hj=>simp at hj;subst hj;simp[Addr.add]
    | 1,hj=>simp at hj;subst hj;simp[Addr.add]
    | 2,hj=>simp at hj;subst hj;simp[Addr.add]
    | 3,hj=>simp at hj;subst hj;simp[Addr.add]
   case c2=>
    intro u hu
    simp at hu
    rcases hu with rfl|rfl|rfl|rfl<;>rfl
   case c3=>unfold maxLen;omega
   case c4=>omega
   case c5=>have:=HG.out.size;simp at this ⊢;omega
   intro x' w3 hown3 hgrow _
   have HG3:Hid (G (w.alloc (.cells #[I kind,I op,I k,I a,I b,.string s,I k',I a',I b',.string s',.slice (some ad) L.length cap,.string st,.string tt,bb,I n,I x,I y,I o1,I o2] 35)) w3):=Below.grown (HG.out.alloc _) hgrow (by have:=HG.out.size;simp at this ⊢;omega) (fun g hg=>(World.ownsRow.lt HO.out g hg).1)
   have HO3:Hid (w3.ownsRow (w.alloc (.cells #[I kind,I op,I k,I a,I b,.string s,I k',I a',I b',.string s',.slice (some ad) L.length cap,.string st,.string tt,bb,I n,I x,I y,I o1,I o2] 35)).heap.size 31 4 x' (L++mks (m+1)).length (flat (L++mks (m+1)))):=by
    unfold Hid
    have es:(w.alloc (.cells #[I kind,I op,I k,I a,I b,.string s,I k',I a',I b',.string s',.slice (some ad) L.length cap,.string st,.string tt,bb,I n,I x,I y,I o1,I o2] 35)).heap.size=w.heap.size+1:=by simp
    rw[mks_snoc,←List.append_assoc,List.length_append,flat_snoc,es,hle]
    exact hown3
   clear hown3 hgrow
   go_wp2
   go_roundw
   case rel=>exact⟨m+1,by omega,by go_num,HG3.out,HO3.out⟩
   case measure=>simp[RowKit.intOf];omega
  ·have em:m=3:=by omega
   subst em
   clear hlt hm
   obtain⟨g,cap3,hy,hgb,hcap,HVA⟩:=own_all HO.out
   subst hy
   have HGw:Hid (G w wr):=((G.refl w).alloc _).trans HG.out
   have hE:∀(o:Nat),wr.cell? {block:=w.heap.size,off:=o}=[I kind,I op,I k,I a,I b,.string s,I k',I a',I b',.string s',.slice (some ad) L.length cap,.string st,.string tt,bb,I n,I x,I y,I o1,I o2][o]?:=G.cells HG.out (fun o=>by simp) (by simp)
   have hzE:w.heap.size<wr.heap.size:=by have:=HG.out.size;simp at this;omega
   have hl1:(0:Int)≤(L.length:Int):=by omega
   have hl2:(L.length:Int)≤(cap3:Int):=by omega
   have HVP:Hid (VRow wr (.slice (some ⟨g,0,none⟩) L.length cap3) L):=vrow_prefix HVA (by omega)
   have HVA':Hid _:=HVA
   clear HG HO HVA
   generalize wr=w3 at HGw hE hzE HVP HVA'⊢
   go_wp2_with fail
   refine(HA.out _ _ HGw.out HVP.out).mono ?_
   rintro e w5 ⟨rfl,hb5⟩
   have HG5:Hid (G w3 w5):=hb5
   have hE5:∀(o:Nat),w5.cell? {block:=w.heap.size,off:=o}=[I kind,I op,I k,I a,I b,.string s,I k',I a',I b',.string s',.slice (some ad) L.length cap,.string st,.string tt,bb,I n,I x,I y,I o1,I o2][o]?:=G.cells hb5 hE hzE
   have hz5:w.heap.size<w5.heap.size:=by have:=hb5.size;omega
   clear hb5 hE
   go_wp2_with fail
   refine(HB.out _ ((HGw.out.trans HG5.out).alloc _)).mono ?_
   rintro e w6 ⟨rfl,hb6⟩
   have HG6:Hid (G w3 w6):=(HG5.out.alloc _).trans hb6
   have hE6:∀(o:Nat),w6.cell? {block:=w.heap.size,off:=o}=[I kind,I op,I k,I a,I b,.string s,I k',I a',I b',.string s',.slice (some ad) L.length cap,.string st,.string tt,bb,I n,I x,I y,I o1,I o2][o]?:=G.cells hb6 (G.cells ((G.refl w5).alloc _) hE5 hz5) (by simp;omega)
   have hQ6:∀(o:Nat),w6.cell? {block:=w5.heap.size,off:=o}=[I qk,I qa,I qb,Value.string qs][o]?:=G.cells hb6 (fun o=>by simp) (by simp)
   have hz6:w5.heap.size<w6.heap.size:=by have:=hb6.size;simp at this;omega
   clear hb6 hE5
   have HW8:Hid (W8P w w3 w5.heap.size w6.heap.size (fun o=>[I kind,I op,I k,I a,I b,.string s,I k',I a',I b',.string s',.slice (some ad) L.length cap,.string st,.string tt,bb,I n,I x,I y,I o1,I o2][o]?) qk qa qb qs (w6.alloc (.cells #[I qk,I qa,I qb,.string qs] 31))):=
    ⟨HG6.out.alloc _,G.cells ((G.refl w6).alloc _) hE6 (by omega),G.cells ((G.refl w6).alloc _) hQ6 hz6,fun o=>by simp,by simp;omega,by simp;omega,by simp⟩
   clear hE6 hQ6 HG6
   go_wp2
   generalize (w6.alloc (.cells #[I qk,I qa,I qb,.string qs] 31))=W8 at HW8⊢
   generalize w5.heap.size=B6 at HW8⊢
   generalize w6.heap.size=B8 at HW8⊢
   clear hz6 hz5 HG5
   go_loopw [10] (fun i W=>∃m:Nat,m≤L.length∧i=.int .i64 m∧Hid (W8P w w3 B6 B8 (fun o=>[I kind,I op,I k,I a,I b,.string s,I k',I a',I b',.string s',.slice (some ad) L.length cap,.string st,.string tt,bb,I n,I x,I y,I o1,I o2][o]?) qk qa qb qs W)) (fun i _=>L.length-(RowKit.intOf i).toNat)
   case atStart=>exact⟨0,by omega,rfl,HW8.out⟩
   case round=>
    obtain⟨m,hm,rfl,HW⟩:=hrel
    clear HW8
    by_cases hlt:m<L.length
    ·obtain⟨q,hq⟩:∃q,L[m]?=some q:=⟨L[m],List.getElem?_eq_getElem hlt⟩
     obtain⟨b0,off,ea⟩:∃b off,(some ad)=some ⟨b,off,none⟩:=by
      rcases HV.out with hn|⟨h,hn⟩|⟨b,off,cap2,h,_⟩
      iterate 2
       ·rw[hn] at hlt;exact absurd hlt (Nat.not_lt_zero _)
      ·injection h with h _ _;exact⟨b,off,h⟩
     injection ea with ea
     subst ea
     have hVx:VRow w (.slice (some ⟨b0,off,none⟩) L.length cap) L:=by
      rcases HV.out with hn|h
      ·rw[hn] at hlt;exact absurd hlt (Nat.not_lt_zero _)
      ·exact h
     obtain⟨hG,hE,_,_,_,_,_⟩:=HW.out
     obtain⟨p0,p1,p2,p3⟩:=vrow_at (VRow.G HVP.out hG) hq
     obtain⟨r0,r1,r2,r3⟩:=vrow_at (VRow.G hVx (HGw.out.trans hG)) hq
     simp only[Nat.zero_add] at p0 p1 p2 p3
     have hlt3:(m:Int)<(L.length:Int):=by omega
     obtain⟨k1,a1,b1,s1⟩:=q
     simp only at p0 p1 p2 p3 r0 r1 r2 r3
     clear hVx hG hq
     go_wp2
     go_quiet (fail)
     go_wp2
     go_roundw
     case rel=>exact⟨m+1,by omega,by go_num,W8P.keep (by repeat(first|exact G.refl _|refine G.drewK ?_ _|refine G.drew ?_)) HW.out⟩
     case measure=>simp[RowKit.intOf];omega
    ·clear hm
     go_wp2
     go_loopw [11] (fun i W=>∃m:Nat,m≤3∧i=.int .i64 m∧Hid (W8P w w3 B6 B8 (fun o=>[I kind,I op,I k,I a,I b,.string s,I k',I a',I b',.string s',.slice (some ad) L.length cap,.string st,.string tt,bb,I n,I x,I y,I o1,I o2][o]?) qk qa qb qs W)) (fun i _=>3-(RowKit.intOf i).toNat)
     case atStart=>exact⟨0,by omega,rfl,HW.out⟩
     case round=>
      obtain⟨m2,hm2,rfl,HW2⟩:=hrel
      clear HW
      by_cases hlt2:m2<3
      ·have hq:(L++mks 3)[L.length+m2]?=some (77,(m2:Int),0,E0):=by
        rw[List.getElem?_append_right (by omega),Nat.add_sub_cancel_left]
        simp[mks,hlt2]
       obtain⟨hG,hE,_,_,_,_,_⟩:=HW2.out
       obtain⟨p0,p1,p2,p3⟩:=vrow_at (VRow.G HVA'.out hG) hq
       simp only[Nat.zero_add] at p0 p1 p2 p3
       have i1:(m2:Int)<3:=by omega
       have i2:(L.length:Int)+(m2:Int)<(L.length:Int)+3:=by omega
       clear hG hq
       go_wp2
       go_roundw
       case rel=>exact⟨m2+1,by omega,by go_num,W8P.keep (by repeat(first|exact G.refl _|refine G.drew ?_)) HW2.out⟩
       case measure=>simp[RowKit.intOf];omega
      ·obtain⟨hG,hE,h6,h8,_,_,_⟩:=HW2.out
       have gE:G w wr:=HGw.out.trans hG
       clear hG hE
       go_wp2
       go_ret
       exact⟨rfl,gE⟩
end
section
open Go.RowKit Go.Lib Go.Shelf
attribute [local go_sem] eqV neqV
theorem own_all0{w:World}{base:Nat}{e:TypeId}{y:Value}(h:w.ownsRow base e 4 y (mks 3).length (flat (mks 3))) :
  ∃g cap,y=.slice (some ⟨g,0,none⟩) 3 cap∧base≤g∧3≤cap∧VRow w (.slice (some ⟨g,0,none⟩) 3 cap) (mks 3):=by
 simpa using own_all (L:=[]) (by simpa using h)
theorem folds_none(kind op k a b:Int)(s:ByteArray)(k' a' b':Int)(s':ByteArray)(st tt:ByteArray)(bb:Value)(n x y o1 o2:Int)(w:World)
  (q:Qd) (c:Int)
  (hA:∀W x,G w W→VRow W x []→Calls prog 53 #[.int .i64 op,x] W fun e w'=>e=.returned (.tuple #[q.W,.int .i64 c])∧G W w') (hB:∀W,G w W→Calls prog 54 #[.int .i64 op,.slice none 0 0] W fun e w'=>e=.returned (.tuple #[q.W,.int .i64 c])∧G W w') :
  Calls prog 20 #[.agg #[I kind,I op,I k,I a,I b,.string s,I k',I a',I b',.string s',.slice none 0 0,.string st,.string tt,bb,I n,I x,I y,I o1,I o2]] w fun e w'=>e=.returned (.bool true)∧G w w':=by
 obtain⟨i0,hi,hz0,hz1,hz2⟩:=info_parts info_val
 have HA:Hid _:=hA
 have HB:Hid _:=hB
 clear hA hB
 obtain⟨qk,qa,qb,qs⟩:=q
 go_enter func20,ntmps20
 go_wp2_with (at_builtin;refine wpList_append_own_none rfl _ _ 32 rfl 0 31 i0 4 underlying32 hi _ 0 [] rfl (World.ownsRow_nil _ _ _ _) rfl ?_)
 have HG2:Hid (G (w.alloc (.cells #[I kind,I op,I k,I a,I b,.string s,I k',I a',I b',.string s',.slice none 0 0,.string st,.string tt,bb,I n,I x,I y,I o1,I o2] 35)) (w.alloc (.cells #[I kind,I op,I k,I a,I b,.string s,I k',I a',I b',.string s',.slice none 0 0,.string st,.string tt,bb,I n,I x,I y,I o1,I o2] 35))):=G.refl _
 have HO2:Hid ((w.alloc (.cells #[I kind,I op,I k,I a,I b,.string s,I k',I a',I b',.string s',.slice none 0 0,.string st,.string tt,bb,I n,I x,I y,I o1,I o2] 35)).ownsRow (w.alloc (.cells #[I kind,I op,I k,I a,I b,.string s,I k',I a',I b',.string s',.slice none 0 0,.string st,.string tt,bb,I n,I x,I y,I o1,I o2] 35)).heap.size 31 4 (.slice none 0 0) (mks 0).length (flat (mks 0))):=by exact World.ownsRow_nil _ _ _ _
 go_wp2
 go_loopw [3,4] (fun yy i W=>∃m:Nat,m≤3∧i=.int .i64 m∧Hid (G (w.alloc (.cells #[I kind,I op,I k,I a,I b,.string s,I k',I a',I b',.string s',.slice none 0 0,.string st,.string tt,bb,I n,I x,I y,I o1,I o2] 35)) W)∧Hid (W.ownsRow (w.alloc (.cells #[I kind,I op,I k,I a,I b,.string s,I k',I a',I b',.string s',.slice none 0 0,.string st,.string tt,bb,I n,I x,I y,I o1,I o2] 35)).heap.size 31 4 yy (mks m).length (flat (mks m)))) (fun _ i _=>3-(RowKit.intOf i).toNat)
 case atStart=>exact⟨0,by omega,rfl,HG2.out,HO2.out⟩
 case round=>
  obtain⟨m,hm,rfl,HG,HO⟩:=hrel
  clear HG2 HO2
  by_cases hlt:m<3
  ·have hlt3:(m:Int)<3:=by omega
   have hle:(mks m).length=m:=by simp[mks]
   go_wp2_with (at_builtin;refine wpList_append_own _ rfl _ _ 32 rfl (w.alloc (.cells #[I kind,I op,I k,I a,I b,.string s,I k',I a',I b',.string s',.slice none 0 0,.string st,.string tt,bb,I n,I x,I y,I o1,I o2] 35)).heap.size 31 i0 V0 4 40 underlying32 hi hz0 hz1 hz2 rfl (by decide) _ _ _ rfl (World.ownsRow.alloc HO.out _) ⟨wr.heap.size,0,none⟩ 1 1 [I 77,I m,I 0,.string E0] rfl rfl ?c1 ?c2 ?c3 ?c4 ?c5 ?_)
   case c1=>
    intro j u hj
    match j,hj with
    | 0,hj=>simp at hj;subst hj;simp[Addr.add]
    | 1,hj=>simp at hj;subst hj;simp[Addr.add]
    | 2,hj=>simp at hj;subst hj;simp[Addr.add]
    | 3,hj=>simp at hj;subst hj;simp[Addr.add]
   case c2=>
    intro u hu
    simp at hu
    rcases hu with rfl|rfl|rfl|rfl<;>rfl
   case c3=>unfold maxLen;omega
   case c4=>omega
   case c5=>have:=HG.out.size;simp at this ⊢;omega
   intro x' w3 hown3 hgrow _
   have HG3:Hid (G (w.alloc (.cells #[I kind,I op,I k,I a,I b,.string s,I k',I a',I b',.string s',.slice none 0 0,.string st,.string tt,bb,I n,I x,I y,I o1,I o2] 35)) w3):=Below.grown (HG.out.alloc _) hgrow (by have:=HG.out.size;simp at this ⊢;omega) (fun g hg=>(World.ownsRow.lt HO.out g hg).1)
   have HO3:Hid (w3.ownsRow (w.alloc (.cells #[I kind,I op,I k,I a,I b,.string s,I k',I a',I b',.string s',.slice none 0 0,.string st,.string tt,bb,I n,I x,I y,I o1,I o2] 35)).heap.size 31 4 x' (mks (m+1)).length (flat (mks (m+1)))):=by
    unfold Hid
    have es:(w.alloc (.cells #[I kind,I op,I k,I a,I b,.string s,I k',I a',I b',.string s',.slice none 0 0,.string st,.string tt,bb,I n,I x,I y,I o1,I o2] 35)).heap.size=w.heap.size+1:=by simp
    rw[mks_snoc,List.length_append,flat_snoc,es,hle]
    exact hown3
   clear hown3 hgrow
   go_wp2
   go_roundw
   case rel=>exact⟨m+1,by omega,by go_num,HG3.out,HO3.out⟩
   case measure=>simp[RowKit.intOf];omega
  ·have em:m=3:=by omega
   subst em
   clear hlt hm
   obtain⟨g,cap3,hy,hgb,hcap,HVA⟩:=own_all0 HO.out
   subst hy
   have HGw:Hid (G w wr):=((G.refl w).alloc _).trans HG.out
   have hE:∀(o:Nat),wr.cell? {block:=w.heap.size,off:=o}=[I kind,I op,I k,I a,I b,.string s,I k',I a',I b',.string s',.slice none 0 0,.string st,.string tt,bb,I n,I x,I y,I o1,I o2][o]?:=G.cells HG.out (fun o=>by simp) (by simp)
   have hzE:w.heap.size<wr.heap.size:=by have:=HG.out.size;simp at this;omega
   have hl1:(0:Int)≤(cap3:Int):=by omega
   have hl2:0≤cap3:=Nat.zero_le _
   have HVP:Hid (VRow wr (.slice (some ⟨g,0,none⟩) 0 cap3) []):=.inr ⟨g,0,cap3,rfl,Nat.zero_le _,fun i q hi=>by simp at hi⟩
   have HVA':Hid _:=HVA
   clear HG HO HVA
   generalize wr=w3 at HGw hE hzE HVP HVA'⊢
   go_wp2_with fail
   refine(HA.out _ _ HGw.out HVP.out).mono ?_
   rintro e w5 ⟨rfl,hb5⟩
   have HG5:Hid (G w3 w5):=hb5
   have hE5:∀(o:Nat),w5.cell? {block:=w.heap.size,off:=o}=[I kind,I op,I k,I a,I b,.string s,I k',I a',I b',.string s',.slice none 0 0,.string st,.string tt,bb,I n,I x,I y,I o1,I o2][o]?:=G.cells hb5 hE hzE
   have hz5:w.heap.size<w5.heap.size:=by have:=hb5.size;omega
   clear hb5 hE
   go_wp2_with fail
   refine(HB.out _ ((HGw.out.trans HG5.out).alloc _)).mono ?_
   rintro e w6 ⟨rfl,hb6⟩
   have HG6:Hid (G w3 w6):=(HG5.out.alloc _).trans hb6
   have hE6:∀(o:Nat),w6.cell? {block:=w.heap.size,off:=o}=[I kind,I op,I k,I a,I b,.string s,I k',I a',I b',.string s',.slice none 0 0,.string st,.string tt,bb,I n,I x,I y,I o1,I o2][o]?:=G.cells hb6 (G.cells ((G.refl w5).alloc _) hE5 hz5) (by simp;omega)
   have hQ6:∀(o:Nat),w6.cell? {block:=w5.heap.size,off:=o}=[I qk,I qa,I qb,Value.string qs][o]?:=G.cells hb6 (fun o=>by simp) (by simp)
   have hz6:w5.heap.size<w6.heap.size:=by have:=hb6.size;simp at this;omega
   clear hb6 hE5
   have HW8:Hid (W8P w w3 w5.heap.size w6.heap.size (fun o=>[I kind,I op,I k,I a,I b,.string s,I k',I a',I b',.string s',.slice none 0 0,.string st,.string tt,bb,I n,I x,I y,I o1,I o2][o]?) qk qa qb qs (w6.alloc (.cells #[I qk,I qa,I qb,.string qs] 31))):=
    ⟨HG6.out.alloc _,G.cells ((G.refl w6).alloc _) hE6 (by omega),G.cells ((G.refl w6).alloc _) hQ6 hz6,fun o=>by simp,by simp;omega,by simp;omega,by simp⟩
   clear hE6 hQ6 HG6
   go_wp2
   generalize (w6.alloc (.cells #[I qk,I qa,I qb,.string qs] 31))=W8 at HW8⊢
   generalize w5.heap.size=B6 at HW8⊢
   generalize w6.heap.size=B8 at HW8⊢
   clear hz6 hz5 HG5
   go_loopw [10] (fun i W=>∃m:Nat,m≤0∧i=.int .i64 m∧Hid (W8P w w3 B6 B8 (fun o=>[I kind,I op,I k,I a,I b,.string s,I k',I a',I b',.string s',.slice none 0 0,.string st,.string tt,bb,I n,I x,I y,I o1,I o2][o]?) qk qa qb qs W)) (fun i _=>0-(RowKit.intOf i).toNat)
   case atStart=>exact⟨0,by omega,rfl,HW8.out⟩
   case round=>
    obtain⟨m,hm,rfl,HW⟩:=hrel
    clear HW8
    by_cases hlt:m<0
    ·exact absurd hlt (Nat.not_lt_zero _)
    ·clear hm
     go_wp2
     go_loopw [11] (fun i W=>∃m:Nat,m≤3∧i=.int .i64 m∧Hid (W8P w w3 B6 B8 (fun o=>[I kind,I op,I k,I a,I b,.string s,I k',I a',I b',.string s',.slice none 0 0,.string st,.string tt,bb,I n,I x,I y,I o1,I o2][o]?) qk qa qb qs W)) (fun i _=>3-(RowKit.intOf i).toNat)
     case atStart=>exact⟨0,by omega,rfl,HW.out⟩
     case round=>
      obtain⟨m2,hm2,rfl,HW2⟩:=hrel
      clear HW
      by_cases hlt2:m2<3
      ·have hq:(mks 3)[m2]?=some (77,(m2:Int),0,E0):=by
        simp[mks,hlt2]
       obtain⟨hG,hE,_,_,_,_,_⟩:=HW2.out
       obtain⟨p0,p1,p2,p3⟩:=vrow_at (VRow.G HVA'.out hG) hq
       simp only[Nat.zero_add] at p0 p1 p2 p3
       have i1:(m2:Int)<3:=by omega
       have i2:m2<3:=hlt2
       clear hG hq
       go_wp2
       go_roundw
       case rel=>exact⟨m2+1,by omega,by go_num,W8P.keep (by repeat(first|exact G.refl _|refine G.drew ?_)) HW2.out⟩
       case measure=>simp[RowKit.intOf];omega
      ·obtain⟨hG,hE,h6,h8,_,_,_⟩:=HW2.out
       have gE:G w wr:=HGw.out.trans hG
       clear hG hE
       go_wp2
       go_ret
       exact⟨rfl,gE⟩
end
section
open Go.RowKit Go.PlainAid Go.Lib Go.Shelf
theorem folds_all(W:World)(hT:Rdy W)(e:Ent)(h:VsOk W e.vs)(w:World)(g0:G W w):Calls prog 20 #[e.V] w fun r w'=>r=.returned (.bool true)∧G w w':=by
 obtain⟨kind,op,k,a,b,s,k',a',b',s',vs,st,tt,bb,n,x,y,o1,o2⟩:=e
 simp only at h⊢
 obtain⟨ao,cap,L,rfl,hV,hL,hc⟩:=vs_list h
 obtain⟨q,c,hA,hB⟩:=fold_both op ao cap L W hT hV hL
 rcases hc with ⟨rfl,rfl,rfl⟩|⟨ad,rfl,hfl⟩
 ·exact folds_none kind op k a b s k' a' b' s' st tt bb n x y o1 o2 w q c (fun W1 x g1 h=>hA W1 x (g0.trans g1) h) (fun W1 g1=>hB W1 (g0.trans g1))
 ·exact folds_some kind op k a b s k' a' b' s' st tt bb n x y o1 o2 cap L w ad (fun j u hj=>(Below.cell g0 (World.block_lt_of_cell? W _ (hfl j u hj))).trans (hfl j u hj)) (hV.imp id fun h=>h.G g0) (Nat.le_trans hL.1 reach_le) q c (fun W1 x g1 h=>hA W1 x (g0.trans g1) h) (fun W1 g1=>hB W1 (g0.trans g1))
theorem plays_5(W:World)(hT:Rdy W)(e:Ent)(hk:e.kind=5)(h:VsOk W e.vs)(w:World)(g0:G W w):Calls prog 7 #[e.V] w fun r w'=>r=.returned (.bool true)∧G w w':=by
 have HF:Hid _:=folds_all W hT e h
 obtain⟨kind,op,k,a,b,s,k',a',b',s',vs,st,tt,bb,n,x,y,o1,o2⟩:=e
 simp only at hk
 subst hk
 clear h hT
 have hr:(w.alloc (.cells #[I 5,I op,I k,I a,I b,.string s,I k',I a',I b',.string s',vs,.string st,.string tt,bb,I n,I x,I y,I o1,I o2] 35)).rangeAt w.heap.size 0 [I 5,I op,I k,I a,I b,.string s,I k',I a',I b',.string s',vs,.string st,.string tt,bb,I n,I x,I y,I o1,I o2]:=fun j v hv=>by rw[Nat.zero_add];simpa using hv
 go_enter func7,ntmps7
 go_wp2_with (first|(refine wpList_load_mid rfl 35 _ rfl w.heap.size 0 rfl [I 5,I op,I k,I a,I b,.string s,I k',I a',I b',.string s',vs,.string st,.string tt,bb,I n,I x,I y,I o1,I o2] _ hr underlying35 rfl (by kernel_rfl) ?_)|(go_at_call 20;refine(HF.out _ (g0.alloc _)).mono ?_;rintro e w1 ⟨rfl,hb1⟩))
 go_wp2
 go_ret
 exact⟨rfl,((G.refl w).alloc _).trans hb1⟩
theorem fold_plays(W:World)(hT:Rdy W)(e:Ent)(h:EntOk W e)(h1:5≤e.kind)(h2:e.kind≤5)(w':World)(g:G W w'):Calls prog 7 #[e.V] w' fun r w''=>r=.returned (.bool true)∧G w' w'':=
 plays_5 W hT e (by omega) h.vs w' g
end
section
open Go.Lib
theorem dig_nat(d:Nat)(h:d<10):(UInt8.ofNat (48+d)).toNat=48+d:=by
 rw[UInt8.toNat_ofNat'];omega
theorem decD_digit(u:Nat):∀c∈decDigits u,48≤c.toNat∧c.toNat≤57:=by
 induction u using Nat.strongRecOn with
 | _ u ih=>
  intro c hc
  rw[decDigits] at hc
  by_cases h:u<10
  ·rw[dif_pos h] at hc
   simp only[List.mem_singleton] at hc;subst hc
   rw[dig_nat u h];omega
  ·rw[dif_neg h] at hc
   rcases List.mem_append.1 hc with h'|h'
   ·exact ih (u/10) (by omega) c h'
   ·simp only[List.mem_singleton] at h';subst h'
    rw[dig_nat _ (by omega)];omega
theorem decD_ne(u:Nat):decDigits u≠[]:=by
 rw[decDigits];split<;>simp
theorem parse_snoc(M d:Nat)(hd:d<10)(hM:M≤18446744073709551615):∀(l:List UInt8) (acc v:Nat),parseUintM M acc l=.ok v→v*10+d≤M→parseUintM M acc (l++[UInt8.ofNat (48+d)])=.ok (v*10+d)
 | [],acc,v,h,hv=>by
  simp only[parseUintM] at h
  cases h
  rw[List.nil_append,parseUintM,if_pos (by rw[dig_nat d hd];omega),if_neg (by omega),dig_nat d hd,if_neg (by omega),parseUintM]
  congr 1;omega
 | c::l,acc,v,h,hv=>by
  rw[List.cons_append,parseUintM]
  rw[parseUintM] at h
  by_cases c1:48≤c.toNat∧c.toNat≤57
  ·rw[if_pos c1] at h⊢
   by_cases c2:1844674407370955162≤acc
   ·rw[if_pos c2] at h;cases h
   ·rw[if_neg c2] at h⊢
    by_cases c3:M<acc*10+(c.toNat-48)
    ·rw[if_pos c3] at h;cases h
    ·rw[if_neg c3] at h⊢
     exact parse_snoc M d hd hM l _ v h hv
  ·rw[if_neg c1] at h;cases h
theorem parse_dec(M:Nat)(hM:M≤18446744073709551615)(u:Nat)(hu:u≤M):parseUintM M 0 (decDigits u)=.ok u:=by
 induction u using Nat.strongRecOn with
 | _ u ih=>
  rw[decDigits]
  by_cases h:u<10
  ·rw[dif_pos h]
   have:=parse_snoc M u h hM [] 0 0 (by simp[parseUintM]) (by omega)
   simpa using this
  ·rw[dif_neg h]
   have:=parse_snoc M (u%10) (by omega) hM (decDigits (u/10)) 0 (u/10) (ih (u/10) (by omega) (by omega)) (by omega)
   rw[this];congr 1;omega
theorem parseU_dec(u:Nat)(hu:u≤18446744073709551615):parseUintB 64 (decDigits u)=.ok u:=by
 unfold parseUintB
 rw[if_neg (decD_ne u)]
 exact parse_dec _ (by omega) u (by omega)
theorem parse_pos(u:Nat)(hu:u<9223372036854775808):parseIntB 64 (decDigits u)=.ok (u:Int):=by
 obtain⟨c,r,hc⟩:∃c r,decDigits u=c::r:=by
  cases h:decDigits u with
  | nil=>exact absurd h (decD_ne u)
  | cons c r=>exact⟨c,r,rfl⟩
 have hd:=decD_digit u c (by rw[hc];simp)
 rw[hc]
 unfold parseIntB
 simp only
 rw[if_neg (by omega),←hc,parseU_dec u (by omega)]
 simp only
 rw[if_neg (by omega),if_neg (by omega),if_neg (by omega)]
theorem parse_plus(u:Nat)(hu:u<9223372036854775808):parseIntB 64 (43::decDigits u)=.ok (u:Int):=by
 have e:(43:UInt8).toNat=43:=rfl
 unfold parseIntB
 simp only
 rw[if_pos (by rw[e];simp),parseU_dec u (by omega)]
 simp only
 rw[if_neg (by rw[e];omega),if_neg (by rw[e];omega),if_neg (by rw[e];omega)]
theorem parse_minus(u:Nat)(hu:u≤9223372036854775808):parseIntB 64 (45::decDigits u)=.ok (-(u:Int)):=by
 have e:(45:UInt8).toNat=45:=rfl
 unfold parseIntB
 simp only
 rw[if_pos (by rw[e];simp),parseU_dec u (by omega)]
 simp only
 rw[if_neg (by rw[e];omega),if_neg (by rw[e];omega),if_pos (by rw[e])]
theorem parse_itoa(n:Int)(h:R64 n):parseIntB 64 (itoa n)=.ok n:=by
 unfold R64 at h
 unfold itoa
 by_cases c:n<0
 ·rw[if_pos c,parse_minus _ (by omega)];congr 1;omega
 ·rw[if_neg c,parse_pos _ (by omega)];congr 1;omega
def hx(d:Nat):UInt8:=if d<10 then UInt8.ofNat (48+d)else UInt8.ofNat (87+d)
def esc1(c:UInt8):List UInt8:=
 if c=92 then [92,92] else if c=39 then [92,39] else if c=10 then [92,110] else if c=9 then [92,116] else if c=13 then [92,114]
 else if c.toNat<32∨c=127 then [92,120,hx (c.toNat/16),hx (c.toNat%16)] else [c]
def escS(l:List UInt8):List UInt8:=l.flatMap esc1
def litV(k a b:Int)(s:ByteArray):List UInt8:=
 if k=0 then [110,117,108,108] else if k=1 then(if a=1 then [116,114,117,101] else [102,97,108,115,101])else if k=2 then itoa a
 else if k=3 then(if b<0 then itoa a++itoa b else itoa a++43::itoa b)++[105]
 else if k=4 then 39::escS s.data.toList++[39] else if k=5 then 40::itoa a++[41] else 91::itoa a++[93]
theorem itoa_head(n:Int):∃c r,itoa n=c::r∧(c.toNat=45∨(48≤c.toNat∧c.toNat≤57)):=by
 unfold itoa
 split
 ·exact⟨_,_,rfl,.inl rfl⟩
 ·cases h:decDigits n.toNat with
  | nil=>exact absurd h (decD_ne _)
  | cons c r=>exact⟨c,r,rfl,.inr (decD_digit n.toNat c (by rw[h];simp))⟩
theorem itoa_tail(n:Int):∀c∈(itoa n).drop 1,48≤c.toNat∧c.toNat≤57:=by
 unfold itoa
 split
 ·intro c hc;exact decD_digit _ c (by simpa using hc)
 ·intro c hc;exact decD_digit _ c (List.mem_of_mem_drop hc)
end
section
open Go.Lib
def TG(t:List UInt8)(k a b:Int)(s:ByteArray):Prop:=∀k0 a0 b0 s0,okV k0 a0 b0 s0=true→R64 a0→R64 b0→t=litV k0 a0 b0 s0→k=k0∧a=a0∧b=b0∧s=s0
def whO(l:List UInt8):Int:=match parseIntB 64 l with|.ok v=>v|.syntax=>0|.range=>intSat 64 l
theorem whO_itoa(n:Int)(h:R64 n):whO (itoa n)=n:=by unfold whO;rw[parse_itoa n h]
theorem whO_plus(n:Int)(h:R64 n)(h0:¬n<0):whO (43::itoa n)=n:=by
 unfold R64 at h
 unfold whO itoa
 rw[if_neg h0,parse_plus _ (by omega)]
 simp only;omega
theorem ok_5'{a b:Int}{s:ByteArray}(h:okV 5 a b s=true):b=0∧s=E0:=by
 simp[okV,Bool.and_eq_true] at h
 exact⟨h.1.2,empty_eq (List.isEmpty_iff.2 h.2)⟩
theorem ok_6'{a b:Int}{s:ByteArray}(h:okV 6 a b s=true):b=0∧s=E0:=by
 simp[okV,Bool.and_eq_true] at h
 exact⟨h.1.2,empty_eq (List.isEmpty_iff.2 h.2)⟩
theorem okV_kinds{k a b:Int}{s:ByteArray}(h:okV k a b s=true):k=0∨k=1∨k=2∨k=3∨k=4∨k=5∨k=6:=by
 have:=okV_kind k a b s h
 omega
theorem lit_head{k a b:Int}{s:ByteArray}(h:okV k a b s=true):∃c r,litV k a b s=c::r∧((k=0∧c.toNat=110)∨(k=1∧(c.toNat=116∨c.toNat=102))∨((k=2∨k=3)∧(c.toNat=45∨(48≤c.toNat∧c.toNat≤57)))∨(k=4∧c.toNat=39)∨(k=5∧c.toNat=40)∨(k=6∧c.toNat=91)):=by
 rcases okV_kinds h with rfl|rfl|rfl|rfl|rfl|rfl|rfl
 ·exact⟨_,_,rfl,.inl ⟨rfl,rfl⟩⟩
 ·by_cases c:a=1
  ·subst c;exact⟨116,_,rfl,.inr (.inl ⟨rfl,.inl rfl⟩)⟩
  ·refine⟨102,[97,108,115,101],?_,.inr (.inl ⟨rfl,.inr rfl⟩)⟩
   simp[litV,c]
 ·obtain⟨c,r,e,hc⟩:=itoa_head a
  exact⟨c,r,by simp[litV,e],.inr (.inr (.inl ⟨.inl rfl,hc⟩))⟩
 ·obtain⟨c,r,e,hc⟩:=itoa_head a
  by_cases hb:b<0
  iterate 2
   ·exact⟨c,_,by simp[litV,e,hb];rfl,.inr (.inr (.inl ⟨.inr rfl,hc⟩))⟩
 ·exact⟨39,_,by simp[litV];rfl,.inr (.inr (.inr (.inl ⟨rfl,rfl⟩)))⟩
 ·exact⟨40,_,by simp[litV];rfl,.inr (.inr (.inr (.inr (.inl ⟨rfl,rfl⟩))))⟩
 ·exact⟨91,_,by simp[litV];rfl,.inr (.inr (.inr (.inr (.inr ⟨rfl,rfl⟩))))⟩
theorem lit_ne{k a b:Int}{s:ByteArray}(h:okV k a b s=true):litV k a b s≠[]:=by
 obtain⟨c,r,e,_⟩:=lit_head h
 rw[e];simp
theorem tg_null:TG [110,117,108,108] 0 0 0 E0:=by
 intro k a b s ok _ _ he
 obtain⟨c,r,e,hc⟩:=lit_head ok
 rw[e] at he
 have h1:c.toNat=110:=by have:=(List.cons.inj he).1;subst this;rfl
 have hk:k=0:=by omega
 subst hk
 obtain⟨rfl,rfl,rfl⟩:=ok_0 ok
 exact⟨rfl,rfl,rfl,rfl⟩
theorem tg_bool(x:Bool):TG (if x then [116,114,117,101] else [102,97,108,115,101]) 1 (if x then 1 else 0) 0 E0:=by
 intro k a b s ok _ _ he
 obtain⟨c,r,e,hc⟩:=lit_head ok
 have h1:c.toNat=116∨c.toNat=102:=by
  rw[e] at he
  cases x
  ·have:=(List.cons.inj he).1;subst this;exact .inr rfl
  ·have:=(List.cons.inj he).1;subst this;exact .inl rfl
 have hk:k=1:=by omega
 subst hk
 obtain⟨ha,rfl,rfl⟩:=ok_1 ok
 rcases ha with rfl|rfl
 ·cases x
  ·exact⟨rfl,rfl,rfl,rfl⟩
  ·exact absurd he (by simp[litV])
 ·cases x
  ·exact absurd he (by simp[litV])
  ·exact⟨rfl,rfl,rfl,rfl⟩
def innr(t:List UInt8):List UInt8:=(t.drop 1).dropLast
theorem innr_mid(c d:UInt8)(l:List UInt8):innr (c::l++[d])=l:=by simp[innr]
theorem tg_str{r:List UInt8}{s:ByteArray}(hs:∀l,innr (39::r)=escS l→s.data.toList=l):TG (39::r) 4 0 0 s:=by
 intro k a b s0 ok _ _ he
 obtain⟨c,r',e,hc⟩:=lit_head ok
 have he':=he
 rw[e] at he'
 have h1:c.toNat=39:=by have:=(List.cons.inj he').1;subst this;rfl
 have hk:k=4:=by omega
 subst hk
 obtain⟨rfl,rfl,_⟩:=ok_4 ok
 have h2:=hs s0.data.toList (by rw[he];simp only[litV];exact innr_mid _ _ _)
 refine⟨rfl,rfl,rfl,?_⟩
 cases s;cases s0;simp at h2;rw[h2]
theorem tg_id(c:UInt8)(k0:Int)(hk:(c.toNat=40∧k0=5)∨(c.toNat=91∧k0=6))(r:List UInt8):TG (c::r) k0 (whO (innr (c::r))) 0 E0:=by
 intro k a b s ok ha _ he
 obtain⟨c',r',e,hc⟩:=lit_head ok
 have he':=he
 rw[e] at he'
 have h1:c=c':=(List.cons.inj he').1
 subst h1
 rcases hk with ⟨hc0,rfl⟩|⟨hc0,rfl⟩
 ·have hk:k=5:=by omega
  subst hk
  obtain⟨rfl,rfl⟩:=ok_5' ok
  refine⟨rfl,?_,rfl,rfl⟩
  rw[he,show litV 5 a 0 E0=40::itoa a++[41] by simp[litV],innr_mid]
  exact whO_itoa a ha
 ·have hk:k=6:=by omega
  subst hk
  obtain⟨rfl,rfl⟩:=ok_6' ok
  refine⟨rfl,?_,rfl,rfl⟩
  rw[he,show litV 6 a 0 E0=91::itoa a++[93] by simp[litV],innr_mid]
  exact whO_itoa a ha
theorem tg_whole{t:List UInt8}(h0:t≠[110,117,108,108])(h1:t≠[116,114,117,101])(h2:t≠[102,97,108,115,101])(h3:∀c r,t=c::r→c.toNat≠39∧c.toNat≠40∧c.toNat≠91)(h4:∀u,t≠u++[105]):TG t 2 (whO t) 0 E0:=by
 intro k a b s ok ha _ he
 obtain⟨c,r,e,hc⟩:=lit_head ok
 have h5:=h3 c r (he.trans e)
 rcases okV_kinds ok with rfl|rfl|rfl|rfl|rfl|rfl|rfl
 ·exact absurd he h0
 ·obtain⟨hx,rfl,rfl⟩:=ok_1 ok
  rcases hx with rfl|rfl
  ·exact absurd he h2
  ·exact absurd he h1
 ·obtain⟨rfl,rfl⟩:=ok_2 ok
  exact⟨rfl,by rw[he];exact whO_itoa a ha,rfl,rfl⟩
 ·exact absurd he (h4 _)
 iterate 3
  ·omega
theorem tg_cpx{u:List UInt8}{n:Nat}(hn:∀a b:Int,u=itoa a++(if b<0 then itoa b else 43::itoa b)→n=(itoa a).length)(h3:∀c r,u++[105]=c::r→c.toNat≠39∧c.toNat≠40∧c.toNat≠91):TG (u++[105]) 3 (whO (u.take n)) (whO (u.drop n)) E0:=by
 intro k a b s ok ha hb he
 obtain⟨c,r,e,hc⟩:=lit_head ok
 have h5:=h3 c r (he.trans e)
 have hlast:(u++[105]).getLast?=some 105:=by simp
 rw[he] at hlast
 rcases okV_kinds ok with rfl|rfl|rfl|rfl|rfl|rfl|rfl
 ·exact absurd hlast (by simp[litV])
 ·obtain⟨hx,rfl,rfl⟩:=ok_1 ok
  rcases hx with rfl|rfl<;>exact absurd hlast (by simp[litV])
 ·have hm:(105:UInt8)∈itoa a:=by
   have:litV 2 a b s=itoa a:=by simp[litV]
   rw[this] at hlast
   exact List.mem_of_getLast? hlast
  exfalso
  obtain⟨c',r',e',hc'⟩:=itoa_head a
  have ht:=itoa_tail a
  rw[e'] at hm ht
  rcases List.mem_cons.1 hm with h|h
  ·subst h;have e9:(105:UInt8).toNat=105:=rfl;omega
  ·have:=ht 105 (by simpa using h);have e9:(105:UInt8).toNat=105:=rfl;omega
 ·obtain⟨_,_,rfl⟩:=ok_3 ok
  have he2:u=itoa a++(if b<0 then itoa b else 43::itoa b):=by
   have:litV 3 a b E0=(itoa a++(if b<0 then itoa b else 43::itoa b))++[105]:=by
    by_cases hb0:b<0<;>simp[litV,hb0]
   rw[this] at he
   exact List.append_cancel_right he
  have hn':=hn a b he2
  refine⟨rfl,?_,?_,rfl⟩
  ·rw[hn',he2,List.take_left];exact whO_itoa a ha
  ·rw[hn',he2,List.drop_left]
   by_cases hb0:b<0
   ·rw[if_pos hb0];exact whO_itoa b hb
   ·rw[if_neg hb0];exact whO_plus b hb hb0
 iterate 3
  ·omega
end
end Go.Proofs.YthmdjhfbhbheeaaGreatDoor
