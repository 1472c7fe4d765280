import Derived.BigRegion
import Derived.Test.YtadfaiciolfgjaaGreatDoorLk34
namespace Go.Proofs.YtadfaiciolfgjaaGreatDoor
open Go.Proofs.Tryz
set_option maxHeartbeats 400000
set_option maxRecDepth 100000
section
open Go.RowKit
theorem live_any(t:Nat)(s:Gs)(ids:List Int)(w:World)(h:TT w t s)(hids:ids.Pairwise (·<·))(hmem:∀a,a∈ids↔R64 a∧s.lv a≠none)(hlen:ids.length<4100000000000) :
  Calls prog 45 #[ptr t] w fun e w'=>∃v,e=.returned v∧w'.ownsRow w.heap.size 3 1 v ids.length (ids.map fun z=>I z)∧G w w':=by
 have hc:=h.tb.cell
 have K1:=hide (keys_callP w s.lb)
 have K2:=hide (sorted_callP w s.lb _ ids h.lm hids (fun a=>by rw[hmem a];exact and_congr Iff.rfl (by cases s.lv a<;>simp)) hlen)
 clear h hids hmem hlen
 go_enter func45,ntmps45
 go_wp2_with (first|(go_at_call 82;with_reducible refine(K1.out).mono ?_;rintro e w' ⟨rfl,rfl⟩)|(go_at_call 79;with_reducible refine(K2.out).mono ?_;rintro e w' ⟨v,rfl,hrow,hg⟩)|fail)
 go_ret
 exact⟨v,rfl,own_lo hrow (by simp),((G.refl w).alloc _).trans hg⟩
theorem wounders_none(t:Nat)(s:Gs)(x:Int)(w:World)(h:TT w t s)(hx:R64 x)(hn:s.lv x=none):Calls prog 50 #[ptr t,I x] w fun e w'=>e=.returned (.tuple #[.slice none 0 0,I 80])∧G w w':=by
 have K:=hide (partyOf_any t s x w h hx)
 rw[hn] at K
 simp only[ptv,Option.isSome_none,if_false,Bool.false_eq_true] at K
 clear h hn hx
 go_enter func50,ntmps50
 go_wp2_with (first|(go_at_call 17;with_reducible refine(K.out).mono ?_;rintro e w' ⟨rfl,rfl⟩)|fail)
 go_ret2
 exact⟨rfl,G.refl _⟩
theorem wounded_none(t:Nat)(s:Gs)(x:Int)(w:World)(h:TT w t s)(hx:R64 x)(hn:s.lv x=none):Calls prog 77 #[ptr t,I x] w fun e w'=>e=.returned (.tuple #[.bool false,I 80])∧G w w':=by
 have K:=hide (partyOf_any t s x w h hx)
 rw[hn] at K
 simp only[ptv,Option.isSome_none,if_false,Bool.false_eq_true] at K
 clear h hn hx
 go_enter func77,ntmps77
 go_wp2_with (first|(go_at_call 17;with_reducible refine(K.out).mono ?_;rintro e w' ⟨rfl,rfl⟩)|fail)
 go_ret2
 exact⟨rfl,G.refl _⟩
theorem wounders_any(t:Nat)(s:Gs)(x:Int)(p:Pt)(ids:List Int)(w:World)(h:TT w t s)(hx:R64 x)(hp:s.lv x=some p)(hids:ids.Pairwise (·<·))(hmem:∀a,a∈ids↔R64 a∧p.wd a=true)(hlen:ids.length<4100000000000) :
  Calls prog 50 #[ptr t,I x] w fun e w'=>∃v,e=.returned (.tuple #[v,I 0])∧w'.ownsRow w.heap.size 3 1 v ids.length (ids.map fun z=>I z)∧G w w':=by
 have K:=hide (partyOf_any t s x w h hx)
 rw[hp] at K
 simp only[ptv,Option.isSome_some,if_true] at K
 have ho:=h.pt x p hp
 have hc:=ho.blk.cell
 simp only[Pt.cells] at hc
 have K1:=hide (keys_callW w p.wb)
 have K2:=hide (sorted_callW w p.wb _ ids ho.wm hids (fun a=>by rw[hmem a];exact and_congr Iff.rfl (by cases p.wd a<;>simp[wdv])) hlen)
 clear h hids hmem hlen ho hp hx
 go_enter func50,ntmps50
 go_wp2_with (first|(go_at_call 17;with_reducible refine(K.out).mono ?_;rintro e w' ⟨rfl,hw'⟩;have hw2:=hw'.symm;subst hw2;clear hw')|(go_at_call 85;with_reducible refine(K1.out).mono ?_;rintro e w' ⟨rfl,rfl⟩)|(go_at_call 79;with_reducible refine(K2.out).mono ?_;rintro e w' ⟨v,rfl,hrow,hg⟩)|fail)
 go_ret2
 exact⟨v,rfl,own_lo hrow (by simp),((G.refl w).alloc _).trans hg⟩
theorem waiting_none(t:Nat)(s:Gs)(x:Int)(w:World)(h:TT w t s)(hx:R64 x)(hn:s.lv x=none):Calls prog 75 #[ptr t,I x] w fun e w'=>e=.returned (.tuple #[(⟨0,ByteArray.empty,0⟩:Rs).v,I 0,I 80])∧G w w':=by
 have K:Hid (∀W,G w W→Calls prog 17 #[ptr t,I x] W fun e w'=>e=.returned (.tuple #[.pointer none,I 80])∧w'=W):=fun W g=>by
  have:=partyOf_any t s x W (h.G g) hx
  rw[hn] at this
  exact this
 clear h hx hn
 go_enter func75,ntmps75
 go_wp2_with (first|(go_at_call 17;with_reducible refine(K.out _ ((G.refl w).alloc _)).mono ?_;rintro e w' ⟨rfl,rfl⟩)|fail)
 exact bodyPost_ret (v:=.tuple #[.agg #[I 0,.string ⟨#[]⟩,I 0],I 0,I 80]) (by simp[results,results75,go_sem]) rfl ⟨rfl,(G.refl w).alloc _⟩
theorem waiting_any(t:Nat)(s:Gs)(x:Int)(p:Pt)(w:World)(h:TT w t s)(hx:R64 x)(hp:s.lv x=some p) :
  Calls prog 75 #[ptr t,I x] w fun e w'=>e=.returned (.tuple #[p.at_.v,I p.goal,I 0])∧G w w':=by
 have gA:G w (w.alloc (.cells #[I 0,.string ⟨#[]⟩,I 0] 33)):=(G.refl w).alloc _
 have K:=hide (partyOf_any t s x _ (h.G gA) hx)
 rw[hp] at K
 simp only[ptv,Option.isSome_some,if_true] at K
 have ho:=(h.G gA.drew).pt x p hp
 have HB:=hide ho.blk
 have HB0:=hide (h.pt x p hp).blk
 have HBX:=hide (Blk.new w [I 0,.string ⟨#[]⟩,I 0] 33)
 have hne:¬p.blk=w.heap.size:=by
  have:=h.lt _ _ (h.pt x p hp).t1
  omega
 have HGA:=hide gA
 clear h ho hp hx gA
 go_enter func75,ntmps75
 go_wp2_with (first|(go_at_call 17;with_reducible refine(K.out).mono ?_;rintro e w' ⟨rfl,hw'⟩;have hw2:=hw'.symm;subst hw2;clear hw')|fail)
 have hc:=HB.out.cell
 simp only[Pt.cells] at hc
 have hc0:=HB0.out.cell
 simp only[Pt.cells] at hc0
 have hlt0:=HB0.out.lt
 have hx1:=HBX.out.drew.cell
 have hx2:=HBX.out.drew.frozen
 go_region
 all_goals go_wp2
 all_goals exact bodyPost_ret (v:=.tuple #[.agg #[I p.at_.lv,.string p.at_.lb,I p.at_.id],I p.goal,I 0]) (by simp[results,results75,go_sem]) rfl ⟨rfl,((G.refl w).alloc _).drew⟩
end
end Go.Proofs.YtadfaiciolfgjaaGreatDoor
