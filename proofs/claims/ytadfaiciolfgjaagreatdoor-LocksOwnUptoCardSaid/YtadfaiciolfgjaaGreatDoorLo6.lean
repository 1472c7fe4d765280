import Derived.Test.YtadfaiciolfgjaaGreatDoorLo3
import Derived.Test.YtadfaiciolfgjaaGreatDoorLp1
namespace Go.Proofs.YtadfaiciolfgjaaGreatDoor
open Go.Proofs.Tryz
set_option maxHeartbeats 4000000
set_option maxRecDepth 100000
section
open Go.RowKit
def CPI(n:Nat)(cs:List Value):Prop:=∃l:List Int,l.length=n∧n<4100000000000∧cs=l.map fun z=>I z
def CPH(n:Nat)(cs:List Value):Prop:=∃l:List (Int×Int),l.length=n∧n<4100000000000∧cs=l.flatMap (fun q:Int×Int=>[I q.1,I q.2])
def CPW(n:Nat)(cs:List Value):Prop:=∃l:List (Int×Int×Rs),l.length=n∧n<2000000000000∧cs=l.flatMap gC
structure Kw(w:World)(ty k:Nat)(CP:Nat→List Value→Prop)(q:Kst)(n:Nat):Prop where
 len:q.es.length=q.ws.length
 all:∀(i:Nat) (x y:SV),n≤i→q.es[i]?=some x→q.ws[i]?=some y→y.2.1=x.2.1∧CP x.2.1 (q.C i)∧w.ownsRow 0 ty k (sv y) x.2.1 (q.C i)
structure BQ(lo:Nat)(w:World)(bb:Nat)(a b c:Kst)(n1 n2 n3:Nat):Prop where
 bk:BK lo w bb a b c n1 n2 n3
 kw:Kw w 3 1 CPI a n1∧Kw w 68 2 CPH b n2∧Kw w 101 5 CPW c n3
theorem right_any{lo:Nat}{w:World}{bb n1 n2 n3:Nat}{a b c:Kst}(h:BQ lo w bb a b c n1 n2 n3)(hn:n1≤a.es.length∧n2≤b.es.length∧n3≤c.es.length)(hl:a.es.length<1000000000∧b.es.length<1000000000∧c.es.length<1000000000):Calls prog 12 #[ptr bb] w fun e w'=>e=.returned (.bool true)∧G w w':=by
 have HBK:=hide h.bk;have HK:=hide h.kw;have HN:=hide hn;have HL:=hide hl
 have HGW:Hid (G w w):=G.refl w
 have hbc:=h.bk.blk.cell
 clear h hn hl
 go_enter func12,ntmps12
 go_wp2_with fail
 clear hbc
 go_loopw [3] (fun iv wr=>∃i:Nat,n1≤i∧i≤a.es.length∧iv=I (i:Int)∧G w wr) (fun iv _=>a.es.length-(RowKit.intOf iv).toNat)
 case atStart=>exact⟨n1,Nat.le_refl _,HN.out.1,rfl,HGW.out⟩
 case round=>
  clear HGW
  obtain⟨i,hni,hi,rfl,hgw⟩:=hrel
  have hll:=HL.out.1
  by_cases hlt:i<a.es.length
  ·obtain⟨x,hx⟩:∃x,a.es[i]?=some x:=⟨_,List.getElem?_eq_getElem hlt⟩
   obtain⟨y,hy⟩:∃y,a.ws[i]?=some y:=⟨_,List.getElem?_eq_getElem (by rw[←HK.out.1.len];exact hlt)⟩
   obtain⟨hyn,hcp,hwo⟩:=HK.out.1.all i x y hni hx hy
   obtain⟨g,cap,kv,-⟩:=row_sv HBK.out.i.r1 hx
   obtain⟨g2,cap2,ku,-⟩:=row_sv HBK.out.i.r2 hy
   rw[←HK.out.1.len] at ku
   obtain⟨xa,xn,xc⟩:=x
   obtain⟨ya,yn,yc⟩:=y
   dsimp only at hyn hcp hwo
   subst yn
   have HCC:Hid (∀U,G wr U→(∀o,U.cell? ⟨bb,o,none⟩=([.slice (some ⟨g,0,none⟩) a.es.length cap,.slice (some ⟨g2,0,none⟩) a.es.length cap2,b.v,b.u,c.v,c.u,I n1,I n2,I n3]:List Value)[o]?)∧U.cell? ⟨g,i,none⟩=some (.slice xa xn xc)∧U.cell? ⟨g2,i,none⟩=some (.slice ya xn yc)):=fun U gu=>by
    have hB:=HBK.out.G (hgw.trans gu)
    obtain⟨g',cap',kv',kx'⟩:=row_sv hB.i.r1 hx
    obtain⟨g2',cap2',ku',ky'⟩:=row_sv hB.i.r2 hy
    have hb:=hB.blk.cell
    rw[kv,ku] at hb
    rw[kv] at kv'
    rw[ku] at ku'
    injection kv' with e1
    injection ku' with e2
    cases e1
    cases e2
    exact⟨hb,kx',ky'⟩
   have HOX:Hid (∀U,G wr U→U.ownsRow lo 3 1 (.slice xa xn xc) xn (a.C i)∧U.ownsRow 0 3 1 (.slice ya xn yc) xn (a.C i)):=fun U gu=>⟨own_G (HBK.out.i.own i _ hx) (hgw.trans gu),own_G hwo (hgw.trans gu)⟩
   have iI:(i:Int)<(a.es.length:Int):=by omega
   have hwi:wrap64 ((i:Int)+1)=(i:Int)+1:=by unfold wrap64;omega
   have HWI:=hide hwi;have HLT:=hide hlt;have HNI:=hide hni;have HGW:=hide hgw
   clear hwi hx hy hwo kv ku
   obtain⟨ls,hls,hln,hcs⟩:=hcp
   have KI:Hid (∀U,G wr U→Calls prog 44 #[.slice xa xn xc,.slice ya xn yc] U fun e w'=>e=.returned (.bool true)∧G U w'):=fun U gu=>by
    obtain⟨o1,o2⟩:=HOX.out U gu
    rw[hcs,←hls] at o1 o2
    have:=ints_same ls _ _ lo 0 U (by omega) o1 o2
    rw[hls] at this
    exact this
   obtain⟨hbc,k1,k2⟩:=HCC.out wr (G.refl _)
   clear hls hln hcs hi hni hlt hll hgw
   go_wp2_with fail
   clear hbc k1 k2
   refine wp_region_noPanic ?_
   refine wp_region_held_drew (S:=(fun U=>G wr U)) (by kernel_rfl) ((G.refl wr).drew) (fun hHeld=>?_)
   refine wpAnyH_take (i:=0) (v:=?_) rfl (by kernel_rfl) (by kernel_rfl) (by kernel_rfl) (fun _ _ _ h=>h) (Or.inl ⟨by rfl,?_⟩) hHeld ?_
   rotate_left 1
   ·(intro w hSw;obtain⟨hb,k1,k2⟩:=HCC.out _ hSw;go_simp;try with_reducible rfl)
   try simp only[Act.put,zzA,zzB,zzD,zzE,zzF]
   refine wpAnyH_take (i:=1) (v:=?_) rfl (by kernel_rfl) (by kernel_rfl) (by kernel_rfl) (fun _ _ _ h=>h) (Or.inl ⟨by rfl,?_⟩) hHeld ?_
   rotate_left 1
   ·(intro w hSw;obtain⟨hb,k1,k2⟩:=HCC.out _ hSw;go_simp;try with_reducible rfl)
   try simp only[Act.put,zzA,zzB,zzC,zzD,zzE,zzF]
   refine wpAnyH_take (i:=2) (v:=?_) rfl (by kernel_rfl) (by kernel_rfl) (by kernel_rfl) (fun _ _ _ h=>h) (Or.inl ⟨by rfl,?_⟩) hHeld ?_
   rotate_left 1
   ·(intro w hSw;obtain⟨hb,k1,k2⟩:=HCC.out _ hSw;go_simp;try with_reducible rfl)
   try simp only[Act.put,zzA,zzB,zzC,zzD,zzE,zzF]
   refine wpAnyH_take (i:=3) (v:=?_) rfl (by kernel_rfl) (by kernel_rfl) (by kernel_rfl) (fun _ _ _ h=>h) (Or.inl ⟨by rfl,?_⟩) hHeld ?_
   rotate_left 1
   ·(intro w hSw;obtain⟨hb,k1,k2⟩:=HCC.out _ hSw;go_simp;try with_reducible rfl)
   try simp only[Act.put,zzA,zzB,zzC,zzD,zzE,zzF]
   refine wpAnyH_take (i:=4) (v:=?_) rfl (by kernel_rfl) (by kernel_rfl) (by kernel_rfl) (fun _ _ _ h=>h) (Or.inl ⟨by rfl,?_⟩) hHeld ?_
   rotate_left 1
   ·(intro w hSw;obtain⟨hb,k1,k2⟩:=HCC.out _ hSw;go_simp;try with_reducible rfl)
   try simp only[Act.put,zzA,zzB,zzC,zzD,zzE,zzF]
   refine wpAnyH_take (i:=5) (v:=?_) rfl (by kernel_rfl) (by kernel_rfl) (by kernel_rfl) (fun _ _ _ h=>h) (Or.inl ⟨by rfl,?_⟩) hHeld ?_
   rotate_left 1
   ·(intro w hSw;obtain⟨hb,k1,k2⟩:=HCC.out _ hSw;go_simp;try with_reducible rfl)
   try simp only[Act.put,zzA,zzB,zzC,zzD,zzE,zzF]
   refine wpAnyH_take (i:=6) (v:=?_) rfl (by kernel_rfl) (by kernel_rfl) (by kernel_rfl) (fun _ _ _ h=>h) (Or.inl ⟨by rfl,?_⟩) hHeld ?_
   rotate_left 1
   ·(intro w hSw;obtain⟨hb,k1,k2⟩:=HCC.out _ hSw;go_simp;try with_reducible rfl)
   try simp only[Act.put,zzA,zzB,zzC,zzD,zzE,zzF]
   refine wpAnyH_take (i:=7) (v:=?_) rfl (by kernel_rfl) (by kernel_rfl) (by kernel_rfl) (fun _ _ _ h=>h) (Or.inl ⟨by rfl,?_⟩) hHeld ?_
   rotate_left 1
   ·(intro w hSw;obtain⟨hb,k1,k2⟩:=HCC.out _ hSw;go_simp;try with_reducible rfl)
   try simp only[Act.put,zzA,zzB,zzC,zzD,zzE,zzF]
   refine wpAnyH_take (i:=8) (v:=?_) rfl (by kernel_rfl) (by kernel_rfl) (by kernel_rfl) (fun _ _ _ h=>h) (Or.inl ⟨by rfl,?_⟩) hHeld ?_
   rotate_left 1
   ·(intro w hSw;obtain⟨hb,k1,k2⟩:=HCC.out _ hSw;go_simp;try with_reducible rfl)
   try simp only[Act.put,zzA,zzB,zzC,zzD,zzE,zzF]
   refine wpAnyH_take (i:=9) (v:=?_) rfl (by kernel_rfl) (by kernel_rfl) (by kernel_rfl) (fun _ _ _ h=>h) (Or.inl ⟨by rfl,?_⟩) hHeld ?_
   rotate_left 1
   ·(intro w hSw;obtain⟨hb,k1,k2⟩:=HCC.out _ hSw;go_simp;try with_reducible rfl)
   try simp only[Act.put,zzA,zzB,zzC,zzD,zzE,zzF]
   refine wpAnyH_take (i:=10) (v:=?_) rfl (by kernel_rfl) (by kernel_rfl) (by kernel_rfl) (fun _ _ _ h=>h) (Or.inl ⟨by rfl,?_⟩) hHeld ?_
   rotate_left 1
   ·(intro w hSw;obtain⟨hb,k1,k2⟩:=HCC.out _ hSw;go_simp;try with_reducible rfl)
   try simp only[Act.put,zzA,zzB,zzC,zzD,zzE,zzF]
   refine wpAnyH_take (i:=11) (v:=?_) rfl (by kernel_rfl) (by kernel_rfl) (by kernel_rfl) (fun _ _ _ h=>h) (Or.inl ⟨by rfl,?_⟩) hHeld ?_
   rotate_left 1
   ·(intro w hSw;obtain⟨hb,k1,k2⟩:=HCC.out _ hSw;go_simp;try with_reducible rfl)
   try simp only[Act.put,zzA,zzB,zzC,zzD,zzE,zzF]
   refine wpAnyH_take (i:=12) (v:=?_) rfl (by kernel_rfl) (by kernel_rfl) (by kernel_rfl) (fun _ _ _ h=>h) (Or.inl ⟨by rfl,?_⟩) hHeld ?_
   rotate_left 1
   ·(intro w hSw;obtain⟨hb,k1,k2⟩:=HCC.out _ hSw;go_simp;try with_reducible rfl)
   try simp only[Act.put,zzA,zzB,zzC,zzD,zzE,zzF]
   refine wpAnyH_take (i:=13) (v:=?_) rfl (by kernel_rfl) (by kernel_rfl) (by kernel_rfl) (fun _ _ _ h=>h) (Or.inl ⟨by rfl,?_⟩) hHeld ?_
   rotate_left 1
   ·(intro w hSw;obtain⟨hb,k1,k2⟩:=HCC.out _ hSw;go_simp;try with_reducible rfl)
   try simp only[Act.put,zzA,zzB,zzC,zzD,zzE,zzF]
   refine wpAnyH_ready (rs:=[14]) (by kernel_rfl) (by simp) (AllReadyH.cons rfl (fun K hK=>?_) AllReadyH.nil)
   clear hHeld
   go_simp
   (with_reducible refine(KI.out _ (G.refl wr).drew).mono ?_)
   rintro e w3 ⟨rfl,g3⟩
   have HG3:Hid (G wr w3):=(G.refl wr).drew.trans g3
   clear g3
   refine hK.out _ _ (HG3.out) (fun hHeld=>?_)
   clear hK K
   try simp only[Act.put,zzA,zzB,zzC,zzD,zzE,zzF]
   refine wpAnyH_take (i:=15) (v:=?_) rfl (by kernel_rfl) (by kernel_rfl) (by kernel_rfl) (fun _ _ _ h=>h) (Or.inl ⟨by rfl,?_⟩) hHeld ?_
   rotate_left 1
   ·(intro w hSw;(try dsimp only at hSw);go_simp;try with_reducible rfl)
   try simp only[Act.put,zzA,zzB,zzC,zzD,zzE,zzF]
   refine wpAnyH_done (by kernel_rfl) ?_ _
   refine NoPanic.normal ?_
   go_wp2_with fail
   exact⟨⟨i+1,Nat.le_succ_of_le HNI.out,HLT.out,by rw[HWI.out];exact lrl i,HGW.out.trans HG3.out⟩,by rw[HWI.out];exact lms HLT.out⟩
  ·have iI:¬(i:Int)<(a.es.length:Int):=by omega
   have hB:=HBK.out.G hgw
   obtain⟨va,ca,hva⟩:∃va ca,a.v=.slice va a.es.length ca:=by
    obtain⟨y,h1,h2⟩:=own_sv hB.i.r1
    exact⟨y.1,y.2.2,by rw[h1,←h2];rfl⟩
   have hbc:=hB.blk.cell
   rw[hva] at hbc
   have HGW:=hide hgw
   clear hgw hi hlt hni hll hB hva
   go_wp2_with fail
   clear hbc
   go_loopw [4] (fun iv wr=>∃i:Nat,n2≤i∧i≤b.es.length∧iv=I (i:Int)∧G w wr) (fun iv _=>b.es.length-(RowKit.intOf iv).toNat)
   case atStart=>exact⟨n2,Nat.le_refl _,HN.out.2.1,rfl,HGW.out⟩
   case round=>
    clear HGW
    obtain⟨i,hni,hi,rfl,hgw⟩:=hrel
    obtain⟨wo,hwo0⟩:∃wo,wo=wr:=⟨_,rfl⟩
    subst wr
    have hll:=HL.out.2.1
    by_cases hlt:i<b.es.length
    ·obtain⟨x,hx⟩:∃x,b.es[i]?=some x:=⟨_,List.getElem?_eq_getElem hlt⟩
     obtain⟨y,hy⟩:∃y,b.ws[i]?=some y:=⟨_,List.getElem?_eq_getElem (by rw[←HK.out.2.1.len];exact hlt)⟩
     obtain⟨hyn,hcp,hwo⟩:=HK.out.2.1.all i x y hni hx hy
     obtain⟨g,cap,kv,-⟩:=row_sv HBK.out.h.r1 hx
     obtain⟨g2,cap2,ku,-⟩:=row_sv HBK.out.h.r2 hy
     rw[←HK.out.2.1.len] at ku
     obtain⟨xa,xn,xc⟩:=x
     obtain⟨ya,yn,yc⟩:=y
     dsimp only at hyn hcp hwo
     subst yn
     have HCC:Hid (∀U,G wo U→(∀o,U.cell? ⟨bb,o,none⟩=([a.v,a.u,.slice (some ⟨g,0,none⟩) b.es.length cap,.slice (some ⟨g2,0,none⟩) b.es.length cap2,c.v,c.u,I n1,I n2,I n3]:List Value)[o]?)∧U.cell? ⟨g,i,none⟩=some (.slice xa xn xc)∧U.cell? ⟨g2,i,none⟩=some (.slice ya xn yc)):=fun U gu=>by
      have hB:=HBK.out.G (hgw.trans gu)
      obtain⟨g',cap',kv',kx'⟩:=row_sv hB.h.r1 hx
      obtain⟨g2',cap2',ku',ky'⟩:=row_sv hB.h.r2 hy
      have hb:=hB.blk.cell
      rw[kv,ku] at hb
      rw[kv] at kv'
      rw[ku] at ku'
      injection kv' with e1
      injection ku' with e2
      cases e1
      cases e2
      exact⟨hb,kx',ky'⟩
     have HOX:Hid (∀U,G wo U→U.ownsRow lo 68 2 (.slice xa xn xc) xn (b.C i)∧U.ownsRow 0 68 2 (.slice ya xn yc) xn (b.C i)):=fun U gu=>⟨own_G (HBK.out.h.own i _ hx) (hgw.trans gu),own_G hwo (hgw.trans gu)⟩
     have iI:(i:Int)<(b.es.length:Int):=by omega
     have hwi:wrap64 ((i:Int)+1)=(i:Int)+1:=by unfold wrap64;omega
     have HWI:=hide hwi;have HLT:=hide hlt;have HNI:=hide hni;have HGW:=hide hgw
     clear hwi hx hy hwo kv ku
     obtain⟨ls,hls,hln,hcs⟩:=hcp
     obtain⟨hbc,k1,k2⟩:=HCC.out wo (G.refl _)
     have HLS:=hide hls;have HLN:=hide hln;have HCS:=hide hcs
     clear hls hln hcs hi hni hlt hll hgw
     go_wp2_with fail
     go_quiet (fail)
     generalize hV:World.drewN wo _=V
     have HV:Hid (G wo V):=by rw[←hV];exact(G.refl wo).drewN _
     clear hV hbc k1 k2
     go_wp2_with fail
     go_loopw [5] (fun jv wr=>∃j:Nat,j≤xn∧jv=I (j:Int)∧G wo wr) (fun jv _=>xn-(RowKit.intOf jv).toNat)
     case atStart=>exact⟨0,Nat.zero_le _,rfl,HV.out⟩
     case round=>
      obtain⟨j,hj,rfl,hgv⟩:=hrel
      have hln:=HLN.out
      by_cases hjl:j<xn
      ·obtain⟨q,hq⟩:∃z,ls[j]?=some z:=⟨_,List.getElem?_eq_getElem (by rw[HLS.out];exact hjl)⟩
       obtain⟨o1,o2⟩:=HOX.out wr hgv
       rw[HCS.out] at o1 o2
       have o1':wr.ownsRow lo 68 2 (.slice xa xn xc) ls.length (ls.flatMap (fun q:Int×Int=>[I q.1,I q.2])):=by rw[HLS.out];exact o1
       have o2':wr.ownsRow 0 68 2 (.slice ya xn yc) ls.length (ls.flatMap (fun q:Int×Int=>[I q.1,I q.2])):=by rw[HLS.out];exact o2
       obtain⟨gx,hgx,kc⟩:=row_cell (f:=(fun q:Int×Int=>[I q.1,I q.2])) (k:=2) (fun _=>rfl) o1' hq
       obtain⟨gy,hgy,kd⟩:=row_cell (f:=(fun q:Int×Int=>[I q.1,I q.2])) (k:=2) (fun _=>rfl) o2' hq
       obtain⟨hbc,k1,k2⟩:=HCC.out wr hgv
       rw[hgx] at k1
       rw[hgy] at k2
       have d0:wr.cell? ⟨gx,j*2,none⟩=some (I q.1):=kc 0 (by omega)
       have d1:wr.cell? ⟨gx,j*2+1,none⟩=some (I q.2):=kc 1 (by omega)
       have e0:wr.cell? ⟨gy,j*2,none⟩=some (I q.1):=kd 0 (by omega)
       have e1:wr.cell? ⟨gy,j*2+1,none⟩=some (I q.2):=kd 1 (by omega)
       have jI:(j:Int)<(xn:Int):=by omega
       have hwj:wrap64 ((j:Int)+1)=(j:Int)+1:=by unfold wrap64;omega
       have HWJ:=hide hwj;have HJL:=hide hjl;have HGV:=hide hgv
       clear kc kd hq o1 o2 o1' o2' hgx hgy hj hln hwj hjl hgv
       go_wp2_with fail
       go_quiet (fail)
       generalize hV:World.drewN wr _=V2
       have HV2:Hid (G wr V2):=by rw[←hV];exact(G.refl wr).drewN _
       clear hV
       go_wp2_with fail
       exact⟨⟨j+1,HJL.out,by rw[HWJ.out];exact lrl j,HGV.out.trans HV2.out⟩,by rw[HWJ.out];exact lms HJL.out⟩
      ·have jI:¬(j:Int)<(xn:Int):=by omega
       obtain⟨hbc,k1,k2⟩:=HCC.out wr hgv
       have HGV:=hide hgv
       clear hj hln hjl hgv
       go_wp2_with fail
       exact⟨⟨i+1,Nat.le_succ_of_le HNI.out,HLT.out,by rw[HWI.out];exact lrl i,HGW.out.trans HGV.out⟩,by rw[HWI.out];exact lms HLT.out⟩
    ·have iI:¬(i:Int)<(b.es.length:Int):=by omega
     have hB:=HBK.out.G hgw
     obtain⟨va,ca,hva⟩:∃va ca,b.v=.slice va b.es.length ca:=by
      obtain⟨y,h1,h2⟩:=own_sv hB.h.r1
      exact⟨y.1,y.2.2,by rw[h1,←h2];rfl⟩
     have hbc:=hB.blk.cell
     rw[hva] at hbc
     have HGW:=hide hgw
     clear hgw hi hlt hni hll hB hva
     go_wp2_with fail
     clear hbc
     go_loopw [6] (fun iv wr=>∃i:Nat,n3≤i∧i≤c.es.length∧iv=I (i:Int)∧G w wr) (fun iv _=>c.es.length-(RowKit.intOf iv).toNat)
     case atStart=>exact⟨n3,Nat.le_refl _,HN.out.2.2,rfl,HGW.out⟩
     case round=>
      clear HGW
      obtain⟨i,hni,hi,rfl,hgw⟩:=hrel
      have hll:=HL.out.2.2
      by_cases hlt:i<c.es.length
      ·obtain⟨x,hx⟩:∃x,c.es[i]?=some x:=⟨_,List.getElem?_eq_getElem hlt⟩
       obtain⟨y,hy⟩:∃y,c.ws[i]?=some y:=⟨_,List.getElem?_eq_getElem (by rw[←HK.out.2.2.len];exact hlt)⟩
       obtain⟨hyn,hcp,hwo⟩:=HK.out.2.2.all i x y hni hx hy
       obtain⟨g,cap,kv,-⟩:=row_sv HBK.out.w.r1 hx
       obtain⟨g2,cap2,ku,-⟩:=row_sv HBK.out.w.r2 hy
       rw[←HK.out.2.2.len] at ku
       obtain⟨xa,xn,xc⟩:=x
       obtain⟨ya,yn,yc⟩:=y
       dsimp only at hyn hcp hwo
       subst yn
       have HCC:Hid (∀U,G wr U→(∀o,U.cell? ⟨bb,o,none⟩=([a.v,a.u,b.v,b.u,.slice (some ⟨g,0,none⟩) c.es.length cap,.slice (some ⟨g2,0,none⟩) c.es.length cap2,I n1,I n2,I n3]:List Value)[o]?)∧U.cell? ⟨g,i,none⟩=some (.slice xa xn xc)∧U.cell? ⟨g2,i,none⟩=some (.slice ya xn yc)):=fun U gu=>by
        have hB:=HBK.out.G (hgw.trans gu)
        obtain⟨g',cap',kv',kx'⟩:=row_sv hB.w.r1 hx
        obtain⟨g2',cap2',ku',ky'⟩:=row_sv hB.w.r2 hy
        have hb:=hB.blk.cell
        rw[kv,ku] at hb
        rw[kv] at kv'
        rw[ku] at ku'
        injection kv' with e1
        injection ku' with e2
        cases e1
        cases e2
        exact⟨hb,kx',ky'⟩
       have HOX:Hid (∀U,G wr U→U.ownsRow lo 101 5 (.slice xa xn xc) xn (c.C i)∧U.ownsRow 0 101 5 (.slice ya xn yc) xn (c.C i)):=fun U gu=>⟨own_G (HBK.out.w.own i _ hx) (hgw.trans gu),own_G hwo (hgw.trans gu)⟩
       have iI:(i:Int)<(c.es.length:Int):=by omega
       have hwi:wrap64 ((i:Int)+1)=(i:Int)+1:=by unfold wrap64;omega
       have HWI:=hide hwi;have HLT:=hide hlt;have HNI:=hide hni;have HGW:=hide hgw
       clear hwi hx hy hwo kv ku
       obtain⟨ls,hls,hln,hcs⟩:=hcp
       have KI:Hid (∀U,G wr U→Calls prog 47 #[.slice xa xn xc,.slice ya xn yc] U fun e w'=>e=.returned (.bool true)∧G U w'):=fun U gu=>by
        obtain⟨o1,o2⟩:=HOX.out U gu
        rw[hcs,←hls] at o1 o2
        have:=waits_same ls _ _ lo 0 U (by omega) o1 o2
        rw[hls] at this
        exact this
       obtain⟨hbc,k1,k2⟩:=HCC.out wr (G.refl _)
       clear hls hln hcs hi hni hlt hll hgw
       go_wp2_with fail
       clear hbc k1 k2
       refine wp_region_noPanic ?_
       refine wp_region_held_drew (S:=(fun U=>G wr U)) (by kernel_rfl) ((G.refl wr).drew) (fun hHeld=>?_)
       refine wpAnyH_take (i:=0) (v:=?_) rfl (by kernel_rfl) (by kernel_rfl) (by kernel_rfl) (fun _ _ _ h=>h) (Or.inl ⟨by rfl,?_⟩) hHeld ?_
       rotate_left 1
       ·(intro w hSw;obtain⟨hb,k1,k2⟩:=HCC.out _ hSw;go_simp;try with_reducible rfl)
       try simp only[Act.put,zzA,zzB,zzD,zzE,zzF]
       refine wpAnyH_take (i:=1) (v:=?_) rfl (by kernel_rfl) (by kernel_rfl) (by kernel_rfl) (fun _ _ _ h=>h) (Or.inl ⟨by rfl,?_⟩) hHeld ?_
       rotate_left 1
       ·(intro w hSw;obtain⟨hb,k1,k2⟩:=HCC.out _ hSw;go_simp;try with_reducible rfl)
       try simp only[Act.put,zzA,zzB,zzC,zzD,zzE,zzF]
       refine wpAnyH_take (i:=2) (v:=?_) rfl (by kernel_rfl) (by kernel_rfl) (by kernel_rfl) (fun _ _ _ h=>h) (Or.inl ⟨by rfl,?_⟩) hHeld ?_
       rotate_left 1
       ·(intro w hSw;obtain⟨hb,k1,k2⟩:=HCC.out _ hSw;go_simp;try with_reducible rfl)
       try simp only[Act.put,zzA,zzB,zzC,zzD,zzE,zzF]
       refine wpAnyH_take (i:=3) (v:=?_) rfl (by kernel_rfl) (by kernel_rfl) (by kernel_rfl) (fun _ _ _ h=>h) (Or.inl ⟨by rfl,?_⟩) hHeld ?_
       rotate_left 1
       ·(intro w hSw;obtain⟨hb,k1,k2⟩:=HCC.out _ hSw;go_simp;try with_reducible rfl)
       try simp only[Act.put,zzA,zzB,zzC,zzD,zzE,zzF]
       refine wpAnyH_take (i:=4) (v:=?_) rfl (by kernel_rfl) (by kernel_rfl) (by kernel_rfl) (fun _ _ _ h=>h) (Or.inl ⟨by rfl,?_⟩) hHeld ?_
       rotate_left 1
       ·(intro w hSw;obtain⟨hb,k1,k2⟩:=HCC.out _ hSw;go_simp;try with_reducible rfl)
       try simp only[Act.put,zzA,zzB,zzC,zzD,zzE,zzF]
       refine wpAnyH_take (i:=5) (v:=?_) rfl (by kernel_rfl) (by kernel_rfl) (by kernel_rfl) (fun _ _ _ h=>h) (Or.inl ⟨by rfl,?_⟩) hHeld ?_
       rotate_left 1
       ·(intro w hSw;obtain⟨hb,k1,k2⟩:=HCC.out _ hSw;go_simp;try with_reducible rfl)
       try simp only[Act.put,zzA,zzB,zzC,zzD,zzE,zzF]
       refine wpAnyH_take (i:=6) (v:=?_) rfl (by kernel_rfl) (by kernel_rfl) (by kernel_rfl) (fun _ _ _ h=>h) (Or.inl ⟨by rfl,?_⟩) hHeld ?_
       rotate_left 1
       ·(intro w hSw;obtain⟨hb,k1,k2⟩:=HCC.out _ hSw;go_simp;try with_reducible rfl)
       try simp only[Act.put,zzA,zzB,zzC,zzD,zzE,zzF]
       refine wpAnyH_take (i:=7) (v:=?_) rfl (by kernel_rfl) (by kernel_rfl) (by kernel_rfl) (fun _ _ _ h=>h) (Or.inl ⟨by rfl,?_⟩) hHeld ?_
       rotate_left 1
       ·(intro w hSw;obtain⟨hb,k1,k2⟩:=HCC.out _ hSw;go_simp;try with_reducible rfl)
       try simp only[Act.put,zzA,zzB,zzC,zzD,zzE,zzF]
       refine wpAnyH_take (i:=8) (v:=?_) rfl (by kernel_rfl) (by kernel_rfl) (by kernel_rfl) (fun _ _ _ h=>h) (Or.inl ⟨by rfl,?_⟩) hHeld ?_
       rotate_left 1
       ·(intro w hSw;obtain⟨hb,k1,k2⟩:=HCC.out _ hSw;go_simp;try with_reducible rfl)
       try simp only[Act.put,zzA,zzB,zzC,zzD,zzE,zzF]
       refine wpAnyH_take (i:=9) (v:=?_) rfl (by kernel_rfl) (by kernel_rfl) (by kernel_rfl) (fun _ _ _ h=>h) (Or.inl ⟨by rfl,?_⟩) hHeld ?_
       rotate_left 1
       ·(intro w hSw;obtain⟨hb,k1,k2⟩:=HCC.out _ hSw;go_simp;try with_reducible rfl)
       try simp only[Act.put,zzA,zzB,zzC,zzD,zzE,zzF]
       refine wpAnyH_take (i:=10) (v:=?_) rfl (by kernel_rfl) (by kernel_rfl) (by kernel_rfl) (fun _ _ _ h=>h) (Or.inl ⟨by rfl,?_⟩) hHeld ?_
       rotate_left 1
       ·(intro w hSw;obtain⟨hb,k1,k2⟩:=HCC.out _ hSw;go_simp;try with_reducible rfl)
       try simp only[Act.put,zzA,zzB,zzC,zzD,zzE,zzF]
       refine wpAnyH_take (i:=11) (v:=?_) rfl (by kernel_rfl) (by kernel_rfl) (by kernel_rfl) (fun _ _ _ h=>h) (Or.inl ⟨by rfl,?_⟩) hHeld ?_
       rotate_left 1
       ·(intro w hSw;obtain⟨hb,k1,k2⟩:=HCC.out _ hSw;go_simp;try with_reducible rfl)
       try simp only[Act.put,zzA,zzB,zzC,zzD,zzE,zzF]
       refine wpAnyH_take (i:=12) (v:=?_) rfl (by kernel_rfl) (by kernel_rfl) (by kernel_rfl) (fun _ _ _ h=>h) (Or.inl ⟨by rfl,?_⟩) hHeld ?_
       rotate_left 1
       ·(intro w hSw;obtain⟨hb,k1,k2⟩:=HCC.out _ hSw;go_simp;try with_reducible rfl)
       try simp only[Act.put,zzA,zzB,zzC,zzD,zzE,zzF]
       refine wpAnyH_take (i:=13) (v:=?_) rfl (by kernel_rfl) (by kernel_rfl) (by kernel_rfl) (fun _ _ _ h=>h) (Or.inl ⟨by rfl,?_⟩) hHeld ?_
       rotate_left 1
       ·(intro w hSw;obtain⟨hb,k1,k2⟩:=HCC.out _ hSw;go_simp;try with_reducible rfl)
       try simp only[Act.put,zzA,zzB,zzC,zzD,zzE,zzF]
       refine wpAnyH_ready (rs:=[14]) (by kernel_rfl) (by simp) (AllReadyH.cons rfl (fun K hK=>?_) AllReadyH.nil)
       clear hHeld
       go_simp
       (with_reducible refine(KI.out _ (G.refl wr).drew).mono ?_)
       rintro e w3 ⟨rfl,g3⟩
       have HG3:Hid (G wr w3):=(G.refl wr).drew.trans g3
       clear g3
       refine hK.out _ _ (HG3.out) (fun hHeld=>?_)
       clear hK K
       try simp only[Act.put,zzA,zzB,zzC,zzD,zzE,zzF]
       refine wpAnyH_take (i:=15) (v:=?_) rfl (by kernel_rfl) (by kernel_rfl) (by kernel_rfl) (fun _ _ _ h=>h) (Or.inl ⟨by rfl,?_⟩) hHeld ?_
       rotate_left 1
       ·(intro w hSw;(try dsimp only at hSw);go_simp;try with_reducible rfl)
       try simp only[Act.put,zzA,zzB,zzC,zzD,zzE,zzF]
       refine wpAnyH_done (by kernel_rfl) ?_ _
       refine NoPanic.normal ?_
       go_wp2_with fail
       exact⟨⟨i+1,Nat.le_succ_of_le HNI.out,HLT.out,by rw[HWI.out];exact lrl i,HGW.out.trans HG3.out⟩,by rw[HWI.out];exact lms HLT.out⟩
      ·have iI:¬(i:Int)<(c.es.length:Int):=by omega
       have hB:=HBK.out.G hgw
       obtain⟨va,ca,hva⟩:∃va ca,c.v=.slice va c.es.length ca:=by
        obtain⟨y,h1,h2⟩:=own_sv hB.w.r1
        exact⟨y.1,y.2.2,by rw[h1,←h2];rfl⟩
       have hbc:=hB.blk.cell
       rw[hva] at hbc
       have HGW:=hide hgw
       clear hgw hi hlt hni hll hB hva
       go_wp2_with fail
       go_ret
       exact⟨rfl,HGW.out⟩
end
section
open Go.RowKit
theorem BQ.G{lo:Nat}{w w':World}{bb n1 n2 n3:Nat}{a b c:Kst}(h:BQ lo w bb a b c n1 n2 n3)(g:Go.Proofs.YtadfaiciolfgjaaGreatDoor.G w w'):BQ lo w' bb a b c n1 n2 n3:=
 ⟨h.bk.G g,⟨⟨h.kw.1.len,fun i x y hi hx hy=>⟨(h.kw.1.all i x y hi hx hy).1,(h.kw.1.all i x y hi hx hy).2.1,own_G (h.kw.1.all i x y hi hx hy).2.2 g⟩⟩,⟨h.kw.2.1.len,fun i x y hi hx hy=>⟨(h.kw.2.1.all i x y hi hx hy).1,(h.kw.2.1.all i x y hi hx hy).2.1,own_G (h.kw.2.1.all i x y hi hx hy).2.2 g⟩⟩,⟨h.kw.2.2.len,fun i x y hi hx hy=>⟨(h.kw.2.2.all i x y hi hx hy).1,(h.kw.2.2.all i x y hi hx hy).2.1,own_G (h.kw.2.2.all i x y hi hx hy).2.2 g⟩⟩⟩⟩
theorem Kw.off{w w':World}{ty k n:Nat}{P:Nat→List Value→Prop}{q:Kst}{F:Nat→Prop}(h:Kw w ty k P q n)(c:Chg F w w')(hF:∀b,F b→b<w.heap.size→∃e,HasTy w b e∧e≠ty):Kw w' ty k P q n:=
 ⟨h.len,fun i x y hi hx hy=>⟨(h.all i x y hi hx hy).1,(h.all i x y hi hx hy).2.1,own_chg (h.all i x y hi hx hy).2.2 c (fun b e f=>by
  obtain⟨t,h1,h2⟩:=hF b f (own_lt (h.all i x y hi hx hy).2.2 e)
  exact h2 (h1.one (own_ty (h.all i x y hi hx hy).2.2 e)))⟩⟩
def Old(q q':Kst):Prop:=∀t,t<q.es.length→q'.es[t]?=q.es[t]?∧q'.C t=q.C t
theorem Old.mk{q q':Kst}{m:Nat→List Value}{n:Nat}(h:Old q q')(k:Mk m q n)(hn:n≤q.es.length):Mk m q' n:=fun t x ht hx=>by
 obtain⟨h1,h2⟩:=h t (by omega)
 rw[h2]
 exact k t x ht (by rw[←h1];exact hx)
theorem Old.refl(q:Kst):Old q q:=fun _ _=>⟨rfl,rfl⟩
theorem Old.trans{q q1 q2:Kst}(h:Old q q1)(k:Old q1 q2)(hl:q.es.length≤q1.es.length):Old q q2:=fun t ht=>by
 obtain⟨h1,h2⟩:=h t ht
 obtain⟨k1,k2⟩:=k t (by omega)
 exact⟨k1.trans h1,k2.trans h2⟩
def Pua(lo:Nat)(w:World)(bb:Nat)(a b c:Kst)(n1 n2 n3:Nat)(x:SV)(w':World):Prop:=∃q:Kst,BQ lo w' bb q b c n1 n2 n3∧q.es.length=a.es.length+1∧Old a q∧Chg (BB bb a b c) w w'∧∀k,BB bb q b c k→BB bb a b c k∨w.heap.size≤k∨(sv x).ownBlock=some k
theorem app_sva(w:World)(lo:Nat)(v:Value)(es:List SV)(x:SV)(hv:w.ownsRow lo 42 1 v es.length (es.map sv))(hl:es.length<1000000000)(hlo:lo≤w.heap.size) :
  ∃v' w',(Builtin.append_ #[27,27] 27 #[v,.slice (some ⟨w.heap.size,0,none⟩) 1 1]).run prog (w.alloc (.cells #[sv x] 42))=.ok v' w'∧w'.ownsRow lo 42 1 v' (es++[x]).length ((es++[x]).map sv)∧Chg (fun b=>v.ownBlock=some b) (w.alloc (.cells #[sv x] 42)) w'∧∀b,v'.ownBlock=some b→v.ownBlock=some b∨(w.alloc (.cells #[sv x] 42)).heap.size≤b:=by
 obtain⟨i0,hi0,hz0,hz1,hz2⟩:=info_parts (show(prog.info? 42).map (fun i=>(i.zero,i.size,i.bytes))=some (some (.slice none 0 0),1,24)from by kernel_rfl)
 have hmx:(4200000000000:Nat)≤maxLen:=of_decide_eq_true (by kernel_rfl)
 have gA:G w (w.alloc (.cells #[sv x] 42)):=(G.refl w).alloc _
 have hnb:=Blk.new w [sv x] 42
 obtain⟨v',w9,q1,q2,q3,-,q5⟩:=run_append_own_at (P:=prog) (w:=w.alloc (.cells #[sv x] 42)) lo 27 27 42 i0 _ 1 24 underlying27 hi0 hz0 hz1 hz2 rfl (by decide) v _ _ (own_G hv gA) ⟨w.heap.size,0,none⟩ 1 1 [sv x] rfl (fun j u hu=>by
  have:=hnb.cell j
  rw[hu] at this
  rw[Addr.add_mid,Nat.zero_add];exact this) (fun u hu=>by simp at hu;subst hu;rfl) (by omega) (by omega) (Nat.le_trans hlo gA.size)
 refine⟨v',w9,q1,?_,⟨q3.os,q3.tape,q3.output,q3.size,fun k hk hn=>q3.block k hk (fun e=>hn e.symm)⟩,fun b hb=>?_⟩
 ·rw[List.map_append,List.length_append];exact q2
 ·rcases q5 with q5|q5
  ·rw[q5] at hb;exact .inl hb
  ·rw[q5] at hb;have:=Option.some.inj hb;exact .inr (by omega)
section
variable {lo:Nat} {w w1 w2 w3 w4 w5 w6:World} {bb n1 n2 n3:Nat} {a b c:Kst} {x y:SV} {cs:List Value} {v1 u1:Value}
theorem halfa(h:BQ lo w bb a b c n1 n2 n3)(g1:G w w1)(c12:Chg (fun z=>a.v.ownBlock=some z) w1 w2)(g34:G (w2.setCell ⟨bb,0,none⟩ v1) w4):Blk w2 bb 31 [a.v,a.u,b.v,b.u,c.v,c.u,I n1,I n2,I n3]∧Blk w4 bb 31 [v1,a.u,b.v,b.u,c.v,c.u,I n1,I n2,I n3]∧w4.ownsRow lo 42 1 a.u a.ws.length (a.ws.map sv)∧∀w5,Chg (fun z=>a.u.ownBlock=some z) w4 w5→Blk w5 bb 31 [v1,a.u,b.v,b.u,c.v,c.u,I n1,I n2,I n3]:=by
 have hB1:=h.bk.G g1
 have hb2:=hB1.blk.chg c12 (fun e=>own_ne hB1.i.r1 hB1.blk (by decide) e)
 have hb4:=(hb2.set 0 v1).G g34
 have hr2:w2.ownsRow lo 42 1 a.u a.ws.length (a.ws.map sv):=own_chg hB1.i.r2 c12 (fun b e f=>hB1.i.ne b f e)
 have hr3:(w2.setCell ⟨bb,0,none⟩ v1).ownsRow lo 42 1 a.u a.ws.length (a.ws.map sv):=own_chg hr2 (chg_setCell (F:=fun k=>k=bb) w2 _ (.inl rfl)) (fun b e f=>own_ne hr2 hb2 (by decide) (by rw[e,f]))
 have hr4:=own_G hr3 g34
 exact⟨hb2,hb4,hr4,fun w5 c=>hb4.chg c (fun e=>own_ne hr4 hb4 (by decide) e)⟩
theorem pusha(h:BQ lo w bb a b c n1 n2 n3)(g1:G w w1)(hx:w1.ownsRow lo 3 1 (sv x) x.2.1 cs)(hxn:∀k,(sv x).ownBlock=some k→¬a.At k)(r1:w2.ownsRow lo 42 1 v1 (a.es++[x]).length ((a.es++[x]).map sv))(c12:Chg (fun z=>a.v.ownBlock=some z) w1 w2)(o1:∀z,v1.ownBlock=some z→a.v.ownBlock=some z∨w1.heap.size≤z)
  (g34:G (w2.setCell ⟨bb,0,none⟩ v1) w4) (hy:w4.ownsRow 0 3 1 (sv y) x.2.1 cs) (hyn:y.2.1=x.2.1) (hcp:CPI x.2.1 cs) (r2:w5.ownsRow lo 42 1 u1 (a.ws++[y]).length ((a.ws++[y]).map sv)) (c45:Chg (fun z=>a.u.ownBlock=some z) w4 w5) (o2:∀z,u1.ownBlock=some z→a.u.ownBlock=some z∨w4.heap.size≤z):Pua lo w bb a b c n1 n2 n3 x (w5.setCell ⟨bb,1,none⟩ u1):=by
 have hB1:=h.bk.G g1
 obtain⟨hb2,hb4,hr4,hb5⟩:=halfa (v1:=v1) h g1 c12 g34
 have hb5:=hb5 w5 c45
 have c23:Chg (fun k=>k=bb) w2 (w2.setCell ⟨bb,0,none⟩ v1):=chg_setCell w2 _ (.inl rfl)
 have c56:Chg (fun k=>k=bb) w5 (w5.setCell ⟨bb,1,none⟩ u1):=chg_setCell w5 _ (.inl rfl)
 have k2:=hB1.i.push1 (by decide) hx hxn c12 r1 o1
 have k3:=k2.off c23 (fun b e _=>by subst e;exact⟨_,hb2.ty,by decide,by decide⟩)
 have k4:=k3.G g34
 have k5:=k4.push2 (y:=y) (by decide) c45 r2 o2
 have k6:=k5.off c56 (fun b e _=>by subst e;exact⟨_,hb5.ty,by decide,by decide⟩)
 have tot:Chg (fun k=>k=bb∨a.v.ownBlock=some k∨a.u.ownBlock=some k) w (w5.setCell ⟨bb,1,none⟩ u1):=((((g1.chg.trans (c12.mono (fun k e=>.inr (.inl e)))).trans (c23.mono (fun k e=>.inl e))).trans g34.chg).trans (c45.mono (fun k e=>.inr (.inr e)))).trans (c56.mono (fun k e=>.inl e))
 have hF:∀(t1 t2:Nat),t1≠31→t1≠42→t2≠31→t2≠42→∀z,(z=bb∨a.v.ownBlock=some z∨a.u.ownBlock=some z)→z<w.heap.size→∃e,HasTy w z e∧e≠t1∧e≠t2:=fun t1 t2 q1 q2 q3 q4 z e _=>by
  rcases e with rfl|e|e
  ·exact⟨_,h.bk.blk.ty,fun e=>q1 e.symm,fun e=>q3 e.symm⟩
  ·exact⟨_,own_ty h.bk.i.r1 e,fun e=>q2 e.symm,fun e=>q4 e.symm⟩
  ·exact⟨_,own_ty h.bk.i.r2 e,fun e=>q2 e.symm,fun e=>q4 e.symm⟩
 have hF1:∀t1:Nat,t1≠31→t1≠42→∀z,(z=bb∨a.v.ownBlock=some z∨a.u.ownBlock=some z)→z<w.heap.size→∃e,HasTy w z e∧e≠t1:=fun t1 q1 q2 z e hb=>by
  obtain⟨t,h1,h2,-⟩:=hF t1 t1 q1 q2 q1 q2 z e hb
  exact⟨t,h1,h2⟩
 have z1:=g1.size
 have z2:=c12.size
 have z4:w2.heap.size≤w4.heap.size:=by have:=g34.size;simp at this;exact this
 refine⟨⟨v1,u1,a.es++[x],a.ws++[y],fun j=>if j=a.es.length then cs else a.C j⟩,⟨⟨hb5.set 1 u1,k6,h.bk.h.off tot (hF _ _ (by decide) (by decide) (by decide) (by decide)),h.bk.w.off tot (hF _ _ (by decide) (by decide) (by decide) (by decide))⟩,?kw,h.kw.2.1.off tot (hF1 _ (by decide) (by decide)),h.kw.2.2.off tot (hF1 _ (by decide) (by decide))⟩,by simp,fun t ht=>?_,tot.mono (fun k e=>?_),fun k hk=>?_⟩
 case kw=>
  refine⟨by simp[h.kw.1.len],fun i x' y' hi hx' hy'=>?_⟩
  dsimp only at hx' hy'⊢
  have hlen:=h.kw.1.len
  by_cases hlt:i<a.es.length
  ·rw[List.getElem?_append_left hlt] at hx'
   rw[List.getElem?_append_left (by omega)] at hy'
   rw[if_neg (by omega)]
   have:=(h.kw.1.off tot (hF1 _ (by decide) (by decide))).all i x' y' hi hx' hy'
   exact this
  ·have hle:=(List.getElem?_eq_some_iff.1 hx').1
   simp at hle
   have hie:i=a.es.length:=by omega
   subst hie
   simp at hx'
   rw[hlen] at hy'
   simp at hy'
   subst hx' hy'
   rw[if_pos rfl]
   refine⟨hyn,hcp,own_chg (own_chg hy c45 (fun b e f=>absurd ((own_ty hy e).one (own_ty hr4 f)) (by decide))) c56 (fun b e f=>?_)⟩
   have hy5:w5.ownsRow 0 3 1 (sv y) x.2.1 cs:=own_chg hy c45 (fun b e f=>absurd ((own_ty hy e).one (own_ty hr4 f)) (by decide))
   subst f
   exact absurd ((own_ty hy5 e).one hb5.ty) (by decide)
 ·dsimp only
  rw[List.getElem?_append_left ht,if_neg (by omega)]
  exact⟨rfl,rfl⟩
 ·rcases e with e|e|e
  ·exact .inl e
  ·exact .inr (.inl (.inl e))
  ·exact .inr (.inl (.inr (.inl e)))
 ·rcases hk with hk|hk|hk|hk
  ·exact .inl (.inl hk)
  ·rcases hk with hk|hk|⟨z,hz,hk⟩
   ·rcases o1 k hk with e|e
    ·exact .inl (.inr (.inl (.inl e)))
    ·exact .inr (.inl (Nat.le_trans z1 e))
   ·rcases o2 k hk with e|e
    ·exact .inl (.inr (.inl (.inr (.inl e))))
    ·exact .inr (.inl (by omega))
   ·rcases List.mem_append.1 hz with hz|hz
    ·exact .inl (.inr (.inl (.inr (.inr ⟨z,hz,hk⟩))))
    ·have:z=x:=by simpa using hz
     subst this
     exact .inr (.inr hk)
  ·exact .inl (.inr (.inr (.inl hk)))
  ·exact .inl (.inr (.inr (.inr hk)))
end
def Pub(lo:Nat)(w:World)(bb:Nat)(a b c:Kst)(n1 n2 n3:Nat)(x:SV)(w':World):Prop:=∃q:Kst,BQ lo w' bb a q c n1 n2 n3∧q.es.length=b.es.length+1∧Old b q∧Chg (BB bb a b c) w w'∧∀k,BB bb a q c k→BB bb a b c k∨w.heap.size≤k∨(sv x).ownBlock=some k
theorem app_svb(w:World)(lo:Nat)(v:Value)(es:List SV)(x:SV)(hv:w.ownsRow lo 91 1 v es.length (es.map sv))(hl:es.length<1000000000)(hlo:lo≤w.heap.size) :
  ∃v' w',(Builtin.append_ #[28,28] 28 #[v,.slice (some ⟨w.heap.size,0,none⟩) 1 1]).run prog (w.alloc (.cells #[sv x] 91))=.ok v' w'∧w'.ownsRow lo 91 1 v' (es++[x]).length ((es++[x]).map sv)∧Chg (fun b=>v.ownBlock=some b) (w.alloc (.cells #[sv x] 91)) w'∧∀b,v'.ownBlock=some b→v.ownBlock=some b∨(w.alloc (.cells #[sv x] 91)).heap.size≤b:=by
 obtain⟨i0,hi0,hz0,hz1,hz2⟩:=info_parts (show(prog.info? 91).map (fun i=>(i.zero,i.size,i.bytes))=some (some (.slice none 0 0),1,24)from by kernel_rfl)
 have hmx:(4200000000000:Nat)≤maxLen:=of_decide_eq_true (by kernel_rfl)
 have gA:G w (w.alloc (.cells #[sv x] 91)):=(G.refl w).alloc _
 have hnb:=Blk.new w [sv x] 91
 obtain⟨v',w9,q1,q2,q3,-,q5⟩:=run_append_own_at (P:=prog) (w:=w.alloc (.cells #[sv x] 91)) lo 28 28 91 i0 _ 1 24 underlying28 hi0 hz0 hz1 hz2 rfl (by decide) v _ _ (own_G hv gA) ⟨w.heap.size,0,none⟩ 1 1 [sv x] rfl (fun j u hu=>by
  have:=hnb.cell j
  rw[hu] at this
  rw[Addr.add_mid,Nat.zero_add];exact this) (fun u hu=>by simp at hu;subst hu;rfl) (by omega) (by omega) (Nat.le_trans hlo gA.size)
 refine⟨v',w9,q1,?_,⟨q3.os,q3.tape,q3.output,q3.size,fun k hk hn=>q3.block k hk (fun e=>hn e.symm)⟩,fun b hb=>?_⟩
 ·rw[List.map_append,List.length_append];exact q2
 ·rcases q5 with q5|q5
  ·rw[q5] at hb;exact .inl hb
  ·rw[q5] at hb;have:=Option.some.inj hb;exact .inr (by omega)
section
variable {lo:Nat} {w w1 w2 w3 w4 w5 w6:World} {bb n1 n2 n3:Nat} {a b c:Kst} {x y:SV} {cs:List Value} {v1 u1:Value}
theorem halfb(h:BQ lo w bb a b c n1 n2 n3)(g1:G w w1)(c12:Chg (fun z=>b.v.ownBlock=some z) w1 w2)(g34:G (w2.setCell ⟨bb,2,none⟩ v1) w4):Blk w2 bb 31 [a.v,a.u,b.v,b.u,c.v,c.u,I n1,I n2,I n3]∧Blk w4 bb 31 [a.v,a.u,v1,b.u,c.v,c.u,I n1,I n2,I n3]∧w4.ownsRow lo 91 1 b.u b.ws.length (b.ws.map sv)∧∀w5,Chg (fun z=>b.u.ownBlock=some z) w4 w5→Blk w5 bb 31 [a.v,a.u,v1,b.u,c.v,c.u,I n1,I n2,I n3]:=by
 have hB1:=h.bk.G g1
 have hb2:=hB1.blk.chg c12 (fun e=>own_ne hB1.h.r1 hB1.blk (by decide) e)
 have hb4:=(hb2.set 2 v1).G g34
 have hr2:w2.ownsRow lo 91 1 b.u b.ws.length (b.ws.map sv):=own_chg hB1.h.r2 c12 (fun b e f=>hB1.h.ne b f e)
 have hr3:(w2.setCell ⟨bb,2,none⟩ v1).ownsRow lo 91 1 b.u b.ws.length (b.ws.map sv):=own_chg hr2 (chg_setCell (F:=fun k=>k=bb) w2 _ (.inl rfl)) (fun b e f=>own_ne hr2 hb2 (by decide) (by rw[e,f]))
 have hr4:=own_G hr3 g34
 exact⟨hb2,hb4,hr4,fun w5 c=>hb4.chg c (fun e=>own_ne hr4 hb4 (by decide) e)⟩
theorem pushb(h:BQ lo w bb a b c n1 n2 n3)(g1:G w w1)(hx:w1.ownsRow lo 68 2 (sv x) x.2.1 cs)(hxn:∀k,(sv x).ownBlock=some k→¬b.At k)(r1:w2.ownsRow lo 91 1 v1 (b.es++[x]).length ((b.es++[x]).map sv))(c12:Chg (fun z=>b.v.ownBlock=some z) w1 w2)(o1:∀z,v1.ownBlock=some z→b.v.ownBlock=some z∨w1.heap.size≤z)
  (g34:G (w2.setCell ⟨bb,2,none⟩ v1) w4) (hy:w4.ownsRow 0 68 2 (sv y) x.2.1 cs) (hyn:y.2.1=x.2.1) (hcp:CPH x.2.1 cs) (r2:w5.ownsRow lo 91 1 u1 (b.ws++[y]).length ((b.ws++[y]).map sv)) (c45:Chg (fun z=>b.u.ownBlock=some z) w4 w5) (o2:∀z,u1.ownBlock=some z→b.u.ownBlock=some z∨w4.heap.size≤z):Pub lo w bb a b c n1 n2 n3 x (w5.setCell ⟨bb,3,none⟩ u1):=by
 have hB1:=h.bk.G g1
 obtain⟨hb2,hb4,hr4,hb5⟩:=halfb (v1:=v1) h g1 c12 g34
 have hb5:=hb5 w5 c45
 have c23:Chg (fun k=>k=bb) w2 (w2.setCell ⟨bb,2,none⟩ v1):=chg_setCell w2 _ (.inl rfl)
 have c56:Chg (fun k=>k=bb) w5 (w5.setCell ⟨bb,3,none⟩ u1):=chg_setCell w5 _ (.inl rfl)
 have k2:=hB1.h.push1 (by decide) hx hxn c12 r1 o1
 have k3:=k2.off c23 (fun b e _=>by subst e;exact⟨_,hb2.ty,by decide,by decide⟩)
 have k4:=k3.G g34
 have k5:=k4.push2 (y:=y) (by decide) c45 r2 o2
 have k6:=k5.off c56 (fun b e _=>by subst e;exact⟨_,hb5.ty,by decide,by decide⟩)
 have tot:Chg (fun k=>k=bb∨b.v.ownBlock=some k∨b.u.ownBlock=some k) w (w5.setCell ⟨bb,3,none⟩ u1):=((((g1.chg.trans (c12.mono (fun k e=>.inr (.inl e)))).trans (c23.mono (fun k e=>.inl e))).trans g34.chg).trans (c45.mono (fun k e=>.inr (.inr e)))).trans (c56.mono (fun k e=>.inl e))
 have hF:∀(t1 t2:Nat),t1≠31→t1≠91→t2≠31→t2≠91→∀z,(z=bb∨b.v.ownBlock=some z∨b.u.ownBlock=some z)→z<w.heap.size→∃e,HasTy w z e∧e≠t1∧e≠t2:=fun t1 t2 q1 q2 q3 q4 z e _=>by
  rcases e with rfl|e|e
  ·exact⟨_,h.bk.blk.ty,fun e=>q1 e.symm,fun e=>q3 e.symm⟩
  ·exact⟨_,own_ty h.bk.h.r1 e,fun e=>q2 e.symm,fun e=>q4 e.symm⟩
  ·exact⟨_,own_ty h.bk.h.r2 e,fun e=>q2 e.symm,fun e=>q4 e.symm⟩
 have hF1:∀t1:Nat,t1≠31→t1≠91→∀z,(z=bb∨b.v.ownBlock=some z∨b.u.ownBlock=some z)→z<w.heap.size→∃e,HasTy w z e∧e≠t1:=fun t1 q1 q2 z e hb=>by
  obtain⟨t,h1,h2,-⟩:=hF t1 t1 q1 q2 q1 q2 z e hb
  exact⟨t,h1,h2⟩
 have z1:=g1.size
 have z2:=c12.size
 have z4:w2.heap.size≤w4.heap.size:=by have:=g34.size;simp at this;exact this
 refine⟨⟨v1,u1,b.es++[x],b.ws++[y],fun j=>if j=b.es.length then cs else b.C j⟩,⟨⟨hb5.set 3 u1,h.bk.i.off tot (hF _ _ (by decide) (by decide) (by decide) (by decide)),k6,h.bk.w.off tot (hF _ _ (by decide) (by decide) (by decide) (by decide))⟩,h.kw.1.off tot (hF1 _ (by decide) (by decide)),?kw,h.kw.2.2.off tot (hF1 _ (by decide) (by decide))⟩,by simp,fun t ht=>?_,tot.mono (fun k e=>?_),fun k hk=>?_⟩
 case kw=>
  refine⟨by simp[h.kw.2.1.len],fun i x' y' hi hx' hy'=>?_⟩
  dsimp only at hx' hy'⊢
  have hlen:=h.kw.2.1.len
  by_cases hlt:i<b.es.length
  ·rw[List.getElem?_append_left hlt] at hx'
   rw[List.getElem?_append_left (by omega)] at hy'
   rw[if_neg (by omega)]
   have:=(h.kw.2.1.off tot (hF1 _ (by decide) (by decide))).all i x' y' hi hx' hy'
   exact this
  ·have hle:=(List.getElem?_eq_some_iff.1 hx').1
   simp at hle
   have hie:i=b.es.length:=by omega
   subst hie
   simp at hx'
   rw[hlen] at hy'
   simp at hy'
   subst hx' hy'
   rw[if_pos rfl]
   refine⟨hyn,hcp,own_chg (own_chg hy c45 (fun b e f=>absurd ((own_ty hy e).one (own_ty hr4 f)) (by decide))) c56 (fun b e f=>?_)⟩
   have hy5:w5.ownsRow 0 68 2 (sv y) x.2.1 cs:=own_chg hy c45 (fun b e f=>absurd ((own_ty hy e).one (own_ty hr4 f)) (by decide))
   subst f
   exact absurd ((own_ty hy5 e).one hb5.ty) (by decide)
 ·dsimp only
  rw[List.getElem?_append_left ht,if_neg (by omega)]
  exact⟨rfl,rfl⟩
 ·rcases e with e|e|e
  ·exact .inl e
  ·exact .inr (.inr (.inl (.inl e)))
  ·exact .inr (.inr (.inl (.inr (.inl e))))
 ·rcases hk with hk|hk|hk|hk
  ·exact .inl (.inl hk)
  ·exact .inl (.inr (.inl hk))
  ·rcases hk with hk|hk|⟨z,hz,hk⟩
   ·rcases o1 k hk with e|e
    ·exact .inl (.inr (.inr (.inl (.inl e))))
    ·exact .inr (.inl (Nat.le_trans z1 e))
   ·rcases o2 k hk with e|e
    ·exact .inl (.inr (.inr (.inl (.inr (.inl e)))))
    ·exact .inr (.inl (by omega))
   ·rcases List.mem_append.1 hz with hz|hz
    ·exact .inl (.inr (.inr (.inl (.inr (.inr ⟨z,hz,hk⟩)))))
    ·have:z=x:=by simpa using hz
     subst this
     exact .inr (.inr hk)
  ·exact .inl (.inr (.inr (.inr hk)))
end
def Puc(lo:Nat)(w:World)(bb:Nat)(a b c:Kst)(n1 n2 n3:Nat)(x:SV)(w':World):Prop:=∃q:Kst,BQ lo w' bb a b q n1 n2 n3∧q.es.length=c.es.length+1∧Old c q∧Chg (BB bb a b c) w w'∧∀k,BB bb a b q k→BB bb a b c k∨w.heap.size≤k∨(sv x).ownBlock=some k
theorem app_svc(w:World)(lo:Nat)(v:Value)(es:List SV)(x:SV)(hv:w.ownsRow lo 95 1 v es.length (es.map sv))(hl:es.length<1000000000)(hlo:lo≤w.heap.size) :
  ∃v' w',(Builtin.append_ #[29,29] 29 #[v,.slice (some ⟨w.heap.size,0,none⟩) 1 1]).run prog (w.alloc (.cells #[sv x] 95))=.ok v' w'∧w'.ownsRow lo 95 1 v' (es++[x]).length ((es++[x]).map sv)∧Chg (fun b=>v.ownBlock=some b) (w.alloc (.cells #[sv x] 95)) w'∧∀b,v'.ownBlock=some b→v.ownBlock=some b∨(w.alloc (.cells #[sv x] 95)).heap.size≤b:=by
 obtain⟨i0,hi0,hz0,hz1,hz2⟩:=info_parts (show(prog.info? 95).map (fun i=>(i.zero,i.size,i.bytes))=some (some (.slice none 0 0),1,24)from by kernel_rfl)
 have hmx:(4200000000000:Nat)≤maxLen:=of_decide_eq_true (by kernel_rfl)
 have gA:G w (w.alloc (.cells #[sv x] 95)):=(G.refl w).alloc _
 have hnb:=Blk.new w [sv x] 95
 obtain⟨v',w9,q1,q2,q3,-,q5⟩:=run_append_own_at (P:=prog) (w:=w.alloc (.cells #[sv x] 95)) lo 29 29 95 i0 _ 1 24 underlying29 hi0 hz0 hz1 hz2 rfl (by decide) v _ _ (own_G hv gA) ⟨w.heap.size,0,none⟩ 1 1 [sv x] rfl (fun j u hu=>by
  have:=hnb.cell j
  rw[hu] at this
  rw[Addr.add_mid,Nat.zero_add];exact this) (fun u hu=>by simp at hu;subst hu;rfl) (by omega) (by omega) (Nat.le_trans hlo gA.size)
 refine⟨v',w9,q1,?_,⟨q3.os,q3.tape,q3.output,q3.size,fun k hk hn=>q3.block k hk (fun e=>hn e.symm)⟩,fun b hb=>?_⟩
 ·rw[List.map_append,List.length_append];exact q2
 ·rcases q5 with q5|q5
  ·rw[q5] at hb;exact .inl hb
  ·rw[q5] at hb;have:=Option.some.inj hb;exact .inr (by omega)
section
variable {lo:Nat} {w w1 w2 w3 w4 w5 w6:World} {bb n1 n2 n3:Nat} {a b c:Kst} {x y:SV} {cs:List Value} {v1 u1:Value}
theorem halfc(h:BQ lo w bb a b c n1 n2 n3)(g1:G w w1)(c12:Chg (fun z=>c.v.ownBlock=some z) w1 w2)(g34:G (w2.setCell ⟨bb,4,none⟩ v1) w4):Blk w2 bb 31 [a.v,a.u,b.v,b.u,c.v,c.u,I n1,I n2,I n3]∧Blk w4 bb 31 [a.v,a.u,b.v,b.u,v1,c.u,I n1,I n2,I n3]∧w4.ownsRow lo 95 1 c.u c.ws.length (c.ws.map sv)∧∀w5,Chg (fun z=>c.u.ownBlock=some z) w4 w5→Blk w5 bb 31 [a.v,a.u,b.v,b.u,v1,c.u,I n1,I n2,I n3]:=by
 have hB1:=h.bk.G g1
 have hb2:=hB1.blk.chg c12 (fun e=>own_ne hB1.w.r1 hB1.blk (by decide) e)
 have hb4:=(hb2.set 4 v1).G g34
 have hr2:w2.ownsRow lo 95 1 c.u c.ws.length (c.ws.map sv):=own_chg hB1.w.r2 c12 (fun b e f=>hB1.w.ne b f e)
 have hr3:(w2.setCell ⟨bb,4,none⟩ v1).ownsRow lo 95 1 c.u c.ws.length (c.ws.map sv):=own_chg hr2 (chg_setCell (F:=fun k=>k=bb) w2 _ (.inl rfl)) (fun b e f=>own_ne hr2 hb2 (by decide) (by rw[e,f]))
 have hr4:=own_G hr3 g34
 exact⟨hb2,hb4,hr4,fun w5 c=>hb4.chg c (fun e=>own_ne hr4 hb4 (by decide) e)⟩
theorem pushc(h:BQ lo w bb a b c n1 n2 n3)(g1:G w w1)(hx:w1.ownsRow lo 101 5 (sv x) x.2.1 cs)(hxn:∀k,(sv x).ownBlock=some k→¬c.At k)(r1:w2.ownsRow lo 95 1 v1 (c.es++[x]).length ((c.es++[x]).map sv))(c12:Chg (fun z=>c.v.ownBlock=some z) w1 w2)(o1:∀z,v1.ownBlock=some z→c.v.ownBlock=some z∨w1.heap.size≤z)
  (g34:G (w2.setCell ⟨bb,4,none⟩ v1) w4) (hy:w4.ownsRow 0 101 5 (sv y) x.2.1 cs) (hyn:y.2.1=x.2.1) (hcp:CPW x.2.1 cs) (r2:w5.ownsRow lo 95 1 u1 (c.ws++[y]).length ((c.ws++[y]).map sv)) (c45:Chg (fun z=>c.u.ownBlock=some z) w4 w5) (o2:∀z,u1.ownBlock=some z→c.u.ownBlock=some z∨w4.heap.size≤z):Puc lo w bb a b c n1 n2 n3 x (w5.setCell ⟨bb,5,none⟩ u1):=by
 have hB1:=h.bk.G g1
 obtain⟨hb2,hb4,hr4,hb5⟩:=halfc (v1:=v1) h g1 c12 g34
 have hb5:=hb5 w5 c45
 have c23:Chg (fun k=>k=bb) w2 (w2.setCell ⟨bb,4,none⟩ v1):=chg_setCell w2 _ (.inl rfl)
 have c56:Chg (fun k=>k=bb) w5 (w5.setCell ⟨bb,5,none⟩ u1):=chg_setCell w5 _ (.inl rfl)
 have k2:=hB1.w.push1 (by decide) hx hxn c12 r1 o1
 have k3:=k2.off c23 (fun b e _=>by subst e;exact⟨_,hb2.ty,by decide,by decide⟩)
 have k4:=k3.G g34
 have k5:=k4.push2 (y:=y) (by decide) c45 r2 o2
 have k6:=k5.off c56 (fun b e _=>by subst e;exact⟨_,hb5.ty,by decide,by decide⟩)
 have tot:Chg (fun k=>k=bb∨c.v.ownBlock=some k∨c.u.ownBlock=some k) w (w5.setCell ⟨bb,5,none⟩ u1):=((((g1.chg.trans (c12.mono (fun k e=>.inr (.inl e)))).trans (c23.mono (fun k e=>.inl e))).trans g34.chg).trans (c45.mono (fun k e=>.inr (.inr e)))).trans (c56.mono (fun k e=>.inl e))
 have hF:∀(t1 t2:Nat),t1≠31→t1≠95→t2≠31→t2≠95→∀z,(z=bb∨c.v.ownBlock=some z∨c.u.ownBlock=some z)→z<w.heap.size→∃e,HasTy w z e∧e≠t1∧e≠t2:=fun t1 t2 q1 q2 q3 q4 z e _=>by
  rcases e with rfl|e|e
  ·exact⟨_,h.bk.blk.ty,fun e=>q1 e.symm,fun e=>q3 e.symm⟩
  ·exact⟨_,own_ty h.bk.w.r1 e,fun e=>q2 e.symm,fun e=>q4 e.symm⟩
  ·exact⟨_,own_ty h.bk.w.r2 e,fun e=>q2 e.symm,fun e=>q4 e.symm⟩
 have hF1:∀t1:Nat,t1≠31→t1≠95→∀z,(z=bb∨c.v.ownBlock=some z∨c.u.ownBlock=some z)→z<w.heap.size→∃e,HasTy w z e∧e≠t1:=fun t1 q1 q2 z e hb=>by
  obtain⟨t,h1,h2,-⟩:=hF t1 t1 q1 q2 q1 q2 z e hb
  exact⟨t,h1,h2⟩
 have z1:=g1.size
 have z2:=c12.size
 have z4:w2.heap.size≤w4.heap.size:=by have:=g34.size;simp at this;exact this
 refine⟨⟨v1,u1,c.es++[x],c.ws++[y],fun j=>if j=c.es.length then cs else c.C j⟩,⟨⟨hb5.set 5 u1,h.bk.i.off tot (hF _ _ (by decide) (by decide) (by decide) (by decide)),h.bk.h.off tot (hF _ _ (by decide) (by decide) (by decide) (by decide)),k6⟩,h.kw.1.off tot (hF1 _ (by decide) (by decide)),h.kw.2.1.off tot (hF1 _ (by decide) (by decide)),?kw⟩,by simp,fun t ht=>?_,tot.mono (fun k e=>?_),fun k hk=>?_⟩
 case kw=>
  refine⟨by simp[h.kw.2.2.len],fun i x' y' hi hx' hy'=>?_⟩
  dsimp only at hx' hy'⊢
  have hlen:=h.kw.2.2.len
  by_cases hlt:i<c.es.length
  ·rw[List.getElem?_append_left hlt] at hx'
   rw[List.getElem?_append_left (by omega)] at hy'
   rw[if_neg (by omega)]
   have:=(h.kw.2.2.off tot (hF1 _ (by decide) (by decide))).all i x' y' hi hx' hy'
   exact this
  ·have hle:=(List.getElem?_eq_some_iff.1 hx').1
   simp at hle
   have hie:i=c.es.length:=by omega
   subst hie
   simp at hx'
   rw[hlen] at hy'
   simp at hy'
   subst hx' hy'
   rw[if_pos rfl]
   refine⟨hyn,hcp,own_chg (own_chg hy c45 (fun b e f=>absurd ((own_ty hy e).one (own_ty hr4 f)) (by decide))) c56 (fun b e f=>?_)⟩
   have hy5:w5.ownsRow 0 101 5 (sv y) x.2.1 cs:=own_chg hy c45 (fun b e f=>absurd ((own_ty hy e).one (own_ty hr4 f)) (by decide))
   subst f
   exact absurd ((own_ty hy5 e).one hb5.ty) (by decide)
 ·dsimp only
  rw[List.getElem?_append_left ht,if_neg (by omega)]
  exact⟨rfl,rfl⟩
 ·rcases e with e|e|e
  ·exact .inl e
  ·exact .inr (.inr (.inr (.inl e)))
  ·exact .inr (.inr (.inr (.inr (.inl e))))
 ·rcases hk with hk|hk|hk|hk
  ·exact .inl (.inl hk)
  ·exact .inl (.inr (.inl hk))
  ·exact .inl (.inr (.inr (.inl hk)))
  ·rcases hk with hk|hk|⟨z,hz,hk⟩
   ·rcases o1 k hk with e|e
    ·exact .inl (.inr (.inr (.inr (.inl e))))
    ·exact .inr (.inl (Nat.le_trans z1 e))
   ·rcases o2 k hk with e|e
    ·exact .inl (.inr (.inr (.inr (.inr (.inl e)))))
    ·exact .inr (.inl (by omega))
   ·rcases List.mem_append.1 hz with hz|hz
    ·exact .inl (.inr (.inr (.inr (.inr (.inr ⟨z,hz,hk⟩)))))
    ·have:z=x:=by simpa using hz
     subst this
     exact .inr (.inr hk)
end
theorem ints_any{lo:Nat}{w:World}{bb n1 n2 n3:Nat}{a b c:Kst}(x y:SV)(cs:List Value)(h:BQ lo w bb a b c n1 n2 n3)(hlo:lo≤w.heap.size)(hl:a.es.length<900000000)(hx:w.ownsRow lo 3 1 (sv x) x.2.1 cs)(hxn:∀k,(sv x).ownBlock=some k→¬a.At k)(hy:w.ownsRow 0 3 1 (sv y) x.2.1 cs)(hyn:y.2.1=x.2.1)(hcp:CPI x.2.1 cs):Calls prog 7 #[ptr bb,sv x,sv y] w fun e w'=>e=.returned (.tuple #[])∧Pua lo w bb a b c n1 n2 n3 x w':=by
 have hlw:=h.kw.1.len
 have gA:G w (w.alloc (.cells #[sv x] 42)):=(G.refl w).alloc _
 obtain⟨v1,w2,hr1,k1,c12,o1⟩:=app_sva w lo a.v a.es x h.bk.i.r1 (by omega) hlo
 have g34:G (w2.setCell ⟨bb,0,none⟩ v1) ((w2.setCell ⟨bb,0,none⟩ v1).alloc (.cells #[sv y] 42)):=(G.refl _).alloc _
 obtain⟨hb2,-,hr4,-⟩:=halfa (v1:=v1) h gA c12 (G.refl _)
 have hs2:lo≤(w2.setCell ⟨bb,0,none⟩ v1).heap.size:=by have h1:=gA.size;have h2:=c12.size;simp at h1 h2 ⊢;omega
 obtain⟨u1,w5,hr2,k2,c45,o2⟩:=app_sva (w2.setCell ⟨bb,0,none⟩ v1) lo a.u a.ws y hr4 (by omega) hs2
 have hb5:=(halfa (v1:=v1) h gA c12 g34).2.2.2 w5 c45
 have hy2:((w2.setCell ⟨bb,0,none⟩ v1).alloc (.cells #[sv y] 42)).ownsRow 0 3 1 (sv y) x.2.1 cs:=own_G (own_chg (own_chg (own_G hy gA) c12 (fun b e f=>absurd ((own_ty (own_G hy gA) e).one (own_ty (h.bk.G gA).i.r1 f)) (by decide))) (chg_setCell (F:=fun k=>k=bb) w2 _ (.inl rfl)) (fun b e f=>by
  subst f
  have:=own_chg (own_G hy gA) c12 (fun b e f=>absurd ((own_ty (own_G hy gA) e).one (own_ty (h.bk.G gA).i.r1 f)) (by decide))
  exact absurd ((own_ty this e).one hb2.ty) (by decide))) g34
 have HP:=hide (pusha h gA (own_G hx gA) hxn k1 c12 o1 g34 hy2 hyn hcp k2 c45 o2)
 have hbc:=h.bk.blk.cell
 have hb2c:=hb2.cell
 have hb2f:=hb2.frozen
 have hb5c:=hb5.cell
 have hb5f:=hb5.frozen
 have hszz:(w2.setCell ⟨bb,0,none⟩ v1).heap.size=w2.heap.size:=by simp
 rw[hszz] at hr2
 have HR1:=hide hr1;have HR2:=hide hr2
 clear hszz
 obtain⟨⟨va,vn,vc⟩,hv1,-⟩:=own_sv k1
 obtain⟨⟨ua,un,uc⟩,hu1,-⟩:=own_sv k2
 clear h hlo hl hx hxn hy hyn hcp hlw gA hr1 k1 c12 o1 g34 hb2 hr4 hs2 hr2 k2 c45 o2 hb5 hy2
 obtain⟨xa,xn,xc⟩:=x
 obtain⟨ya,yn,yc⟩:=y
 subst hv1 hu1
 simp only[sv] at HR1 HR2 HP hb5c⊢
 go_enter func7,ntmps7
 go_wp2_with (first|(at_builtin;refine wpList_append_run rfl _ _ 27 rfl _ _ rfl rfl HR1.out ?_;refine Hid.out ?_)|fail)
 unfold Hid
 clear HR1 hbc
 go_wp2_with (first|(at_builtin;refine wpList_append_run rfl _ _ 27 rfl _ _ rfl rfl HR2.out ?_)|fail)
 go_end0
 exact⟨rfl,HP.out⟩
theorem helds_any{lo:Nat}{w:World}{bb n1 n2 n3:Nat}{a b c:Kst}(x y:SV)(cs:List Value)(h:BQ lo w bb a b c n1 n2 n3)(hlo:lo≤w.heap.size)(hl:b.es.length<900000000)(hx:w.ownsRow lo 68 2 (sv x) x.2.1 cs)(hxn:∀k,(sv x).ownBlock=some k→¬b.At k)(hy:w.ownsRow 0 68 2 (sv y) x.2.1 cs)(hyn:y.2.1=x.2.1)(hcp:CPH x.2.1 cs):Calls prog 52 #[ptr bb,sv x,sv y] w fun e w'=>e=.returned (.tuple #[])∧Pub lo w bb a b c n1 n2 n3 x w':=by
 have hlw:=h.kw.2.1.len
 have gA:G w (w.alloc (.cells #[sv x] 91)):=(G.refl w).alloc _
 obtain⟨v1,w2,hr1,k1,c12,o1⟩:=app_svb w lo b.v b.es x h.bk.h.r1 (by omega) hlo
 have g34:G (w2.setCell ⟨bb,2,none⟩ v1) ((w2.setCell ⟨bb,2,none⟩ v1).alloc (.cells #[sv y] 91)):=(G.refl _).alloc _
 obtain⟨hb2,-,hr4,-⟩:=halfb (v1:=v1) h gA c12 (G.refl _)
 have hs2:lo≤(w2.setCell ⟨bb,2,none⟩ v1).heap.size:=by have h1:=gA.size;have h2:=c12.size;simp at h1 h2 ⊢;omega
 obtain⟨u1,w5,hr2,k2,c45,o2⟩:=app_svb (w2.setCell ⟨bb,2,none⟩ v1) lo b.u b.ws y hr4 (by omega) hs2
 have hb5:=(halfb (v1:=v1) h gA c12 g34).2.2.2 w5 c45
 have hy2:((w2.setCell ⟨bb,2,none⟩ v1).alloc (.cells #[sv y] 91)).ownsRow 0 68 2 (sv y) x.2.1 cs:=own_G (own_chg (own_chg (own_G hy gA) c12 (fun b e f=>absurd ((own_ty (own_G hy gA) e).one (own_ty (h.bk.G gA).h.r1 f)) (by decide))) (chg_setCell (F:=fun k=>k=bb) w2 _ (.inl rfl)) (fun b e f=>by
  subst f
  have:=own_chg (own_G hy gA) c12 (fun b e f=>absurd ((own_ty (own_G hy gA) e).one (own_ty (h.bk.G gA).h.r1 f)) (by decide))
  exact absurd ((own_ty this e).one hb2.ty) (by decide))) g34
 have HP:=hide (pushb h gA (own_G hx gA) hxn k1 c12 o1 g34 hy2 hyn hcp k2 c45 o2)
 have hbc:=h.bk.blk.cell
 have hb2c:=hb2.cell
 have hb2f:=hb2.frozen
 have hb5c:=hb5.cell
 have hb5f:=hb5.frozen
 have hszz:(w2.setCell ⟨bb,2,none⟩ v1).heap.size=w2.heap.size:=by simp
 rw[hszz] at hr2
 have HR1:=hide hr1;have HR2:=hide hr2
 clear hszz
 obtain⟨⟨va,vn,vc⟩,hv1,-⟩:=own_sv k1
 obtain⟨⟨ua,un,uc⟩,hu1,-⟩:=own_sv k2
 clear h hlo hl hx hxn hy hyn hcp hlw gA hr1 k1 c12 o1 g34 hb2 hr4 hs2 hr2 k2 c45 o2 hb5 hy2
 obtain⟨xa,xn,xc⟩:=x
 obtain⟨ya,yn,yc⟩:=y
 subst hv1 hu1
 simp only[sv] at HR1 HR2 HP hb5c⊢
 go_enter func52,ntmps52
 go_wp2_with (first|(at_builtin;refine wpList_append_run rfl _ _ 28 rfl _ _ rfl rfl HR1.out ?_;refine Hid.out ?_)|fail)
 unfold Hid
 clear HR1 hbc
 go_wp2_with (first|(at_builtin;refine wpList_append_run rfl _ _ 28 rfl _ _ rfl rfl HR2.out ?_)|fail)
 go_end0
 exact⟨rfl,HP.out⟩
end
end Go.Proofs.YtadfaiciolfgjaaGreatDoor
