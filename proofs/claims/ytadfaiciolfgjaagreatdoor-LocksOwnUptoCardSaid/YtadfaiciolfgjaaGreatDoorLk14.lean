import Derived.Maps.AppendAt
import Derived.Test.YtadfaiciolfgjaaGreatDoorLk13
namespace Go.Proofs.YtadfaiciolfgjaaGreatDoor
open Go.Proofs.Tryz
set_option maxHeartbeats 1000000
set_option maxRecDepth 100000
section
open Go.RowKit
noncomputable def canB(s:Gs)(st qm:Int)(o:Int×Int):Bool:=match s.lv o.1 with|some b=>decide (b.stamp<st)&&!b.hurt&&!fitB qm o.2|none=>false
noncomputable def hitsL(s:Gs)(qm:Int)(p:Pt)(l:List (Int×Int)):Pt:=l.foldl (fun p o=>if canB s p.stamp qm o then p.hit o.1 else p) p
noncomputable def outL(s:Gs)(qm x:Int)(p:Pt)(l:List (Int×Int)):List Int:=if !p.hurt&&l.any (canB s p.stamp qm)then [x] else []
theorem hitsL_snoc(s:Gs)(qm:Int)(p:Pt)(l:List (Int×Int))(o:Int×Int):hitsL s qm p (l++[o])=if canB s (hitsL s qm p l).stamp qm o then(hitsL s qm p l).hit o.1 else hitsL s qm p l:=by
 unfold hitsL
 rw[List.foldl_append]
 rfl
theorem hitsL_same(s:Gs)(qm:Int)(p:Pt)(l:List (Int×Int)):(hitsL s qm p l).stamp=p.stamp∧(hitsL s qm p l).blk=p.blk∧(hitsL s qm p l).hb=p.hb∧(hitsL s qm p l).wb=p.wb∧(hitsL s qm p l).cells=p.cells∧(hitsL s qm p l).hf=p.hf:=by
 induction l generalizing p with
 | nil=>exact⟨rfl,rfl,rfl,rfl,rfl,rfl⟩
 | cons o l ih=>
  have e:hitsL s qm p (o::l)=hitsL s qm (if canB s p.stamp qm o then p.hit o.1 else p) l:=rfl
  rw[e]
  split
  ·exact ih (p.hit o.1)
  ·exact ih p
theorem Pt.hit_hurt(p:Pt)(y:Int):(p.hit y).hurt=true:=Pt.hurt_iff.2 ⟨y,by simp[Pt.hit]⟩
theorem hitsL_hurt(s:Gs)(qm:Int)(p:Pt)(l:List (Int×Int)):(hitsL s qm p l).hurt=(p.hurt || l.any (canB s p.stamp qm)):=by
 induction l generalizing p with
 | nil=>simp[hitsL]
 | cons o l ih=>
  have e:hitsL s qm p (o::l)=hitsL s qm (if canB s p.stamp qm o then p.hit o.1 else p) l:=rfl
  rw[e,ih]
  cases hc:canB s p.stamp qm o with
  | true=>simp[hc,Pt.hit_hurt]
  | false=>simp[hc]
theorem hitsL_wd(s:Gs)(qm:Int)(p:Pt)(l:List (Int×Int)){y:Int}(h:(hitsL s qm p l).wd y=true):p.wd y=true∨∃o∈l,o.1=y:=by
 induction l generalizing p with
 | nil=>exact .inl h
 | cons o l ih=>
  have e:hitsL s qm p (o::l)=hitsL s qm (if canB s p.stamp qm o then p.hit o.1 else p) l:=rfl
  rw[e] at h
  split at h
  ·rcases ih (p.hit o.1) h with h|⟨o',h1,h2⟩
   ·simp only[Pt.hit,upd] at h
    split at h
    ·rename_i e;exact .inr ⟨o,by simp,e.symm⟩
    ·exact .inl h
   ·exact .inr ⟨o',by simp[h1],h2⟩
  ·rcases ih p h with h|⟨o',h1,h2⟩
   ·exact .inl h
   ·exact .inr ⟨o',by simp[h1],h2⟩
theorem outL_snoc(s:Gs)(qm x:Int)(p:Pt)(l:List (Int×Int))(o:Int×Int):outL s qm x p (l++[o])=if canB s p.stamp qm o&&!(hitsL s qm p l).hurt then outL s qm x p l++[x] else outL s qm x p l:=by
 rw[hitsL_hurt]
 unfold outL
 rw[List.any_append,List.any_cons,List.any_nil,Bool.or_false]
 cases p.hurt<;>cases l.any (canB s p.stamp qm)<;>cases hc:canB s p.stamp qm o<;>simp
def SlB(w:World)(F:Nat→Prop)(v:Value)(l:List (Int×Int)):Prop:=∃a c,v=.slice a l.length c∧(l=[]∨∃g off,a=some ⟨g,off,none⟩∧g<w.heap.size∧¬F g∧∀i q,l[i]?=some q→w.cell? ⟨g,off+i*2,none⟩=some (I q.1)∧w.cell? ⟨g,off+i*2+1,none⟩=some (I q.2))
theorem SlB.chg{w w':World}{F:Nat→Prop}{v:Value}{l:List (Int×Int)}(h:SlB w F v l)(hc:Chg F w w'):SlB w' F v l:=by
 obtain⟨a,c,e,h⟩:=h
 refine⟨a,c,e,h.imp_right ?_⟩
 rintro⟨g,off,e,hg,hf,hq⟩
 refine⟨g,off,e,Nat.lt_of_lt_of_le hg hc.size,hf,fun i q hi=>?_⟩
 have hb:=hc.block g hg hf
 exact⟨(World.cell?_of_block (a:=⟨g,off+i*2,none⟩) hb).trans (hq i q hi).1,(World.cell?_of_block (a:=⟨g,off+i*2+1,none⟩) hb).trans (hq i q hi).2⟩
theorem wa_any(t:Nat)(s:Gs)(x qm:Int)(p:Pt)(bv:Value)(beh:List (Int×Int))(w:World)(h:TT w t s)(ht:Tb w)(hp:s.lv x=some p)(hgl:s.own 1=none∧s.own 0=none)(hx:R64 x)(hbv:SlB w (fun k=>k=p.wb) bv beh)(hlen:beh.length≤maxLen)
  (hbe:∀o∈beh,o.1≠x∧R64 o.1∧∃b,s.lv o.1=some b∧∀y,b.wd y=true→R64 y) (hwR:∀y,p.wd y=true→R64 y) (L:List Int) (hL:∀y,p.wd y=true→y∈L) (hLb:∀o∈beh,o.1∈L) (hl:L.length<maxLen) :
  Calls prog 56 #[ptr t,.agg #[I x,I qm],bv] w fun e w'=>∃u,e=.returned u∧w'.ownsRow w.heap.size 3 1 u (outL s qm x p beh).length ((outL s qm x p beh).map fun z=>I z)∧TT w' t (s.setPt x (hitsL s qm p beh))∧Ext w w' s (s.setPt x (hitsL s qm p beh))∧Chg (fun k=>k=p.wb) w w':=by
 have g1:=(G.refl w).alloc (.cells #[I x,I qm] 68)
 have hb1:=Blk.new w [I x,I qm] 68
 have hc:=(h.tb.G g1).cell
 have hq:=hb1.cell
 have hlk:=(h.lm.G g1).lookN kyI underlying78 zeroValue55 (kyI_ok.2 hx)
 rw[hp] at hlk
 simp only[Option.map_some,Option.getD_some] at hlk
 obtain⟨ba,bc,hbv1,hbv2⟩:=id hbv
 subst hbv1
 have HGL:=hide hgl;have HT:=hide h;have HTB:=hide ht;have HP:=hide hp;have HX:=hide hx;have HBV:=hide hbv;have HLEN:=hide hlen;have HBE:=hide hbe;have HWR:=hide hwR;have HL:=hide hL;have HLB:=hide hLb;have HLL:=hide hl;have HG1:=hide g1;have HB1:=hide hb1;have HBV2:=hide hbv2
 clear hgl h ht hp hx hbv hlen hbe hwR hL hLb hl g1 hb1 hbv2
 go_enter func56,ntmps56
 go_wp2
 go_quiet (fail)
 clear hlk hq hc
 have gq:=HG1.out.drewN nq
 have HGQ:=hide gq
 have HSZ:Hid (((w.alloc (.cells #[I x,I qm] 68)).drewN nq).heap.size=w.heap.size+1):=by
  show((w.alloc (.cells #[I x,I qm] 68)).drewN nq).heap.size=_
  rw[drewN_heap,World.size_alloc]
 have HBQ:=hide (HB1.out.drewN nq)
 clear gq HG1 HB1
 go_wp2
 generalize (w.alloc (.cells #[I x,I qm] 68)).drewN nq=W1 at HGQ HSZ HBQ⊢
 go_loopw [8,21] (fun u i wr=>∃(k:Nat),i=I k∧k≤beh.length∧wr.ownsRow w.heap.size 3 1 u (outL s qm x p (beh.take k)).length ((outL s qm x p (beh.take k)).map fun z=>I z)∧TT wr t (s.setPt x (hitsL s qm p (beh.take k)))∧Ext w wr s (s.setPt x (hitsL s qm p (beh.take k)))∧Chg (fun k=>k=p.wb) w wr∧Blk wr w.heap.size 68 [I x,I qm]∧Tb wr∧w.heap.size<wr.heap.size) (fun _ i _=>beh.length-(RowKit.intOf i).toNat)
 case atStart=>
  have e:s.setPt x p=s:=by
   unfold Gs.setPt
   have:upd s.lv x (some p)=s.lv:=by
    funext z
    by_cases e:z=x
    ·subst e;simp[HP.out]
    ·simp[upd_other e]
   rw[this]
  refine⟨0,rfl,Nat.zero_le _,?_,?_,?_,HGQ.out.chg,HBQ.out,HTB.out.G HGQ.out,by rw[HSZ.out];omega⟩
  ·simp[outL,World.ownsRow_nil]
  ·simp only[List.take_zero,hitsL,List.foldl_nil,e];exact HT.out.G HGQ.out
  ·simp only[List.take_zero,hitsL,List.foldl_nil,e];exact HGQ.out.ext s
 case round=>
  obtain⟨k,rfl,hk,hown,hT,hE,hC,hB,hTb,hsz⟩:=hrel
  by_cases hlt:k<beh.length
  ·obtain⟨q,hqk⟩:∃q,beh[k]?=some q:=⟨_,List.getElem?_eq_getElem hlt⟩
   obtain⟨o1,o2⟩:=q
   obtain⟨hox,ho64,b,hb,hbR⟩:=HBE.out _ (List.mem_of_getElem? hqk)
   simp only at hox ho64 hb
   have hsl:=HBV.out.chg hC
   obtain⟨a',c',ev,hsl⟩:=hsl
   cases ev
   rcases hsl with hnil|⟨g,off,hba,hg,hgf,hcel⟩
   ·rw[hnil] at hlt;simp at hlt
   have hq1:=(hcel k _ hqk).1
   have hq2:=(hcel k _ hqk).2
   subst hba
   simp only at hq1 hq2
   have hkI:(k:Int)<(beh.length:Int):=by omega
   have htk:beh.take (k+1)=beh.take k++[(o1,o2)]:=by
    rw[List.take_add_one,hqk];rfl
   have g5:=(G.refl wr).alloc (.cells #[I o1,I o2] 68)
   have hsk:(s.setPt x (hitsL s qm p (beh.take k))).lv o1=some b:=by
    show upd s.lv x _ o1=some b
    rw[upd_other hox];exact hb
   have T5:=hT.G g5
   have hc5:=T5.tb.cell
   have hl5:=T5.lm.lookN kyI underlying78 zeroValue55 (kyI_ok.2 ho64)
   rw[hsk] at hl5
   simp only[Option.map_some,Option.getD_some] at hl5
   have b10:=Blk.new wr [I o1,I o2] 68
   have hq10:=b10.cell
   have hc5':((wr.alloc (.cells #[I o1,I o2] 68)).cell? ⟨t,0,none⟩)=some (.map (some s.lb)):=hc5 0
   have HTK:=hide htk;have HT5:=hide T5;have HB10:=hide b10;have HB4:=hide (hB.G g5);have HTB5:=hide (hTb.G g5);have HE5:=hide (hE.G g5);have HC5:=hide (hC.trans g5.chg);have HOW:=hide (own_G hown g5);have HSK:=hide hsk;have HB:=hide hb;have HBR:=hide hbR;have HOX:=hide hox;have HO64:=hide ho64;have HSZ5:=hide (show w.heap.size<(wr.alloc (.cells #[I o1,I o2] 68)).heap.size from by rw[World.size_alloc];omega)
   have HN10:Hid (w.heap.size<wr.heap.size):=hsz
   have HIN:=hide (List.mem_of_getElem? hqk)
   clear htk T5 b10 hown hT hE hC hB hTb hsz hsk hb hbR hox ho64 g5 hcel hqk hgf hc5 hg
   replace hl5:∀n,(Instr.lookup 78 (.map (some s.lb)) (I o1) false).run prog ((wr.alloc (.cells #[I o1,I o2] 68)).drewN n)=.ok (ptr b.blk) ((wr.alloc (.cells #[I o1,I o2] 68)).drewN n):=hl5
   go_wp2
   go_quiet (fail)
   have gq:=(G.refl (wr.alloc (.cells #[I o1,I o2] 68))).drewN nq
   obtain⟨n10,hn10⟩:∃n,n=wr.heap.size:=⟨_,rfl⟩
   have HT6:=hide (HT5.out.G gq);have HB6:=hide (HB10.out.G gq);have HB46:=hide (HB4.out.G gq);have HTB6:=hide (HTB5.out.G gq);have HE6:=hide (HE5.out.G gq);have HC6:=hide (HC5.out.trans gq.chg);have HOW6:=hide (own_G HOW.out gq);have HSZ6:=hide (Nat.lt_of_lt_of_le HSZ5.out gq.size)
   clear gq HT5 HB10 HB4 HTB5 HE5 HC5 HOW HSZ5 hl5 hc5' hq10 hq1 hq2
   go_wp2
   generalize (wr.alloc (.cells #[I o1,I o2] 68)).drewN nq=W6 at HT6 HB6 HB46 HTB6 HE6 HC6 HOW6 HSZ6⊢
   rw[←hn10] at HB6 HN10⊢
   clear hn10
   obtain⟨pk,hpk⟩:∃pk,pk=hitsL s qm p (beh.take k):=⟨_,rfl⟩
   have hsame:=hitsL_same s qm p (beh.take k)
   rw[←hpk] at hsame
   have hlvx:(s.setPt x pk).lv x=some pk:=by simp[Gs.setPt]
   have HPK:=hide hpk
   rw[←hpk] at HT6 HE6 HSK
   have hpo:=HT6.out.pt x pk hlvx
   have hbo:=HT6.out.pt o1 b HSK.out
   have HS0:Hid ((fun W=>Blk W p.blk 63 p.cells∧Blk W b.blk 63 b.cells∧Blk W w.heap.size 68 [I x,I qm]∧Blk W n10 68 [I o1,I o2]) W6.drew):=by
    have e1:=hpo.blk
    rw[hsame.2.1,hsame.2.2.2.2.1] at e1
    exact⟨e1.drew,hbo.blk.drew,HB46.out.drew,HB6.out.drew⟩
   have HN:Hid (p.blk≠pk.wb∧b.blk≠pk.wb∧w.heap.size≠pk.wb∧n10≠pk.wb):=by
    have h1:=hpo.ne.2.1
    rw[hsame.2.1] at h1
    have h2:b.blk≠pk.wb:=tag_ne hbo.t1 hpo.t3 (by simp)
    have h3:pk.wb<w.heap.size:=by rw[hsame.2.2.2.1];exact HT.out.lt _ _ (HT.out.pt x p HP.out).t3
    have h4:=HN10.out
    exact⟨h1,h2,by omega,by omega⟩
   have T6d:=HT6.out.G ((G.refl W6).drew)
   have KI:=hide (isWounded_any b W6.drew (hbo.blk.drew) (hbo.wm.keep rfl) HBR.out)
   have KF:=hide (fits_any qm o2 W6.drew (HTB6.out.G ((G.refl W6).drew)))
   have KW:=hide (wound_any t (s.setPt x pk) x o1 pk W6.drew T6d hlvx (fun y hy=>by
    rcases hitsL_wd s qm p (beh.take k) (hpk▸hy)with h|⟨o',h1,rfl⟩
    ·exact HWR.out y h
    ·exact(HBE.out o' (List.mem_of_mem_take h1)).2.1) HO64.out L (fun y hy=>by
    rcases hitsL_wd s qm p (beh.take k) (hpk▸hy)with h|⟨o',h1,rfl⟩
    ·exact HL.out y h
    ·exact HLB.out o' (List.mem_of_mem_take h1)) HLL.out)
   rw[hsame.2.1] at KW
   have HSAME:=hide hsame
   clear hsame hlvx hpo hbo T6d hpk
   by_cases hst:b.stamp<p.stamp
   ·have hst':decide (b.stamp<p.stamp)=true:=by simp[hst]
    cases hhb:b.hurt with
    | true=>
     have HCAN:Hid (canB s p.stamp qm (o1,o2)=false):=by simp[Hid,canB,HB.out,hhb]
     have HH1:Hid (hitsL s qm p (beh.take (k+1))=pk):=by
      show _=_
      rw[HTK.out,hitsL_snoc,(hitsL_same s qm p (beh.take k)).1,HCAN.out,←HPK.out];rfl
     have HO1:Hid (outL s qm x p (beh.take (k+1))=outL s qm x p (beh.take k)):=by
      show _=_
      rw[HTK.out,outL_snoc,HCAN.out];rfl
     rw[hhb] at KI
     clear hhb
     refine wp_region_noPanic ?_
     refine wp_region_held_drew (S:=(fun W=>Blk W p.blk 63 p.cells∧Blk W b.blk 63 b.cells∧Blk W w.heap.size 68 [I x,I qm]∧Blk W n10 68 [I o1,I o2])) (by kernel_rfl) (HS0.out) (fun hHeld=>?_)
     refine wpAnyH_take (i:=0) (v:=?_) rfl (by kernel_rfl) (by kernel_rfl) (by kernel_rfl) (fun _ _ _ h=>h) (Or.inl ⟨by rfl,?_⟩) hHeld ?_
     rotate_left 1
     ·(intro w hSw;obtain⟨q1,q2,q3,q4⟩:=hSw;have c1:=q1.cell;have c2:=q2.cell;have c3:=q3.cell;have c4:=q4.cell;simp only[Pt.cells] at c1 c2;go_simp;try with_reducible rfl)
     try simp only[Act.put,zzA,zzB,zzD,zzE,zzF]
     refine wpAnyH_take (i:=1) (v:=?_) rfl (by kernel_rfl) (by kernel_rfl) (by kernel_rfl) (fun _ _ _ h=>h) (Or.inl ⟨by rfl,?_⟩) hHeld ?_
     rotate_left 1
     ·(intro w hSw;obtain⟨q1,q2,q3,q4⟩:=hSw;have c1:=q1.cell;have c2:=q2.cell;have c3:=q3.cell;have c4:=q4.cell;simp only[Pt.cells] at c1 c2;go_simp;try with_reducible rfl)
     try simp only[Act.put,zzA,zzB,zzC,zzD,zzE,zzF]
     refine wpAnyH_take (i:=2) (v:=?_) rfl (by kernel_rfl) (by kernel_rfl) (by kernel_rfl) (fun _ _ _ h=>h) (Or.inl ⟨by rfl,?_⟩) hHeld ?_
     rotate_left 1
     ·(intro w hSw;obtain⟨q1,q2,q3,q4⟩:=hSw;have c1:=q1.cell;have c2:=q2.cell;have c3:=q3.cell;have c4:=q4.cell;simp only[Pt.cells] at c1 c2;go_simp;try with_reducible rfl)
     try simp only[Act.put,zzA,zzB,zzC,zzD,zzE,zzF]
     refine wpAnyH_take (i:=3) (v:=?_) rfl (by kernel_rfl) (by kernel_rfl) (by kernel_rfl) (fun _ _ _ h=>h) (Or.inl ⟨by rfl,?_⟩) hHeld ?_
     rotate_left 1
     ·(intro w hSw;obtain⟨q1,q2,q3,q4⟩:=hSw;have c1:=q1.cell;have c2:=q2.cell;have c3:=q3.cell;have c4:=q4.cell;simp only[Pt.cells] at c1 c2;go_simp;try with_reducible rfl)
     try simp only[Act.put,zzA,zzB,zzC,zzD,zzE,zzF]
     refine wpAnyH_take (i:=4) (v:=?_) rfl (by kernel_rfl) (by kernel_rfl) (by kernel_rfl) (fun _ _ _ h=>h) (Or.inl ⟨by rfl,?_⟩) hHeld ?_
     rotate_left 1
     ·(intro w hSw;obtain⟨q1,q2,q3,q4⟩:=hSw;have c1:=q1.cell;have c2:=q2.cell;have c3:=q3.cell;have c4:=q4.cell;simp only[Pt.cells] at c1 c2;go_simp;try with_reducible rfl)
     try simp only[Act.put,zzA,zzB,zzC,zzD,zzE,zzF]
     refine wpAnyH_take (i:=5) (v:=?_) rfl (by kernel_rfl) (by kernel_rfl) (by kernel_rfl) (fun _ _ _ h=>h) (Or.inl ⟨by rfl,?_⟩) hHeld ?_
     rotate_left 1
     ·(intro w hSw;obtain⟨q1,q2,q3,q4⟩:=hSw;have c1:=q1.cell;have c2:=q2.cell;have c3:=q3.cell;have c4:=q4.cell;simp only[Pt.cells] at c1 c2;go_simp;try with_reducible rfl)
     try simp only[Act.put,zzA,zzB,zzC,zzD,zzE,zzF]
     refine wpAnyH_take (i:=6) (v:=?_) rfl (by kernel_rfl) (by kernel_rfl) (by kernel_rfl) (fun _ _ _ h=>h) (Or.inl ⟨by rfl,?_⟩) hHeld ?_
     rotate_left 1
     ·(intro w hSw;obtain⟨q1,q2,q3,q4⟩:=hSw;have c1:=q1.cell;have c2:=q2.cell;have c3:=q3.cell;have c4:=q4.cell;simp only[Pt.cells] at c1 c2;go_simp;try with_reducible rfl)
     try simp only[Act.put,zzA,zzB,zzC,zzD,zzE,zzF]
     refine wpAnyH_take (i:=7) (v:=?_) rfl (by kernel_rfl) (by kernel_rfl) (by kernel_rfl) (fun _ _ _ h=>h) (Or.inl ⟨by rfl,?_⟩) hHeld ?_
     rotate_left 1
     ·(intro w hSw;obtain⟨q1,q2,q3,q4⟩:=hSw;have c1:=q1.cell;have c2:=q2.cell;have c3:=q3.cell;have c4:=q4.cell;simp only[Pt.cells] at c1 c2;go_simp;try with_reducible rfl)
     try simp only[Act.put,zzA,zzB,zzC,zzD,zzE,zzF]
     refine wpAnyH_take (i:=8) (v:=?_) rfl (by kernel_rfl) (by kernel_rfl) (by kernel_rfl) (fun _ _ _ h=>h) (Or.inl ⟨by rfl,?_⟩) hHeld ?_
     rotate_left 1
     ·(intro w hSw;obtain⟨q1,q2,q3,q4⟩:=hSw;have c1:=q1.cell;have c2:=q2.cell;have c3:=q3.cell;have c4:=q4.cell;simp only[Pt.cells] at c1 c2;go_simp;try with_reducible rfl)
     try simp only[Act.put,zzA,zzB,zzC,zzD,zzE,zzF]
     refine wpAnyH_take (i:=9) (v:=?_) rfl (by kernel_rfl) (by kernel_rfl) (by kernel_rfl) (fun _ _ _ h=>h) (Or.inl ⟨by rfl,?_⟩) hHeld ?_
     rotate_left 1
     ·(intro w hSw;obtain⟨q1,q2,q3,q4⟩:=hSw;have c1:=q1.cell;have c2:=q2.cell;have c3:=q3.cell;have c4:=q4.cell;simp only[Pt.cells] at c1 c2;go_simp;try with_reducible rfl)
     try simp only[Act.put,zzA,zzB,zzC,zzD,zzE,zzF]
     refine wpAnyH_take (i:=10) (v:=?_) rfl (by kernel_rfl) (by kernel_rfl) (by kernel_rfl) (fun _ _ _ h=>h) (Or.inl ⟨by rfl,?_⟩) hHeld ?_
     rotate_left 1
     ·(intro w hSw;(try dsimp only at hSw);go_simp;try with_reducible rfl)
     try simp only[Act.put,zzA,zzB,zzC,zzD,zzE,zzF]
     refine wpAnyH_ready (rs:=[11]) (by kernel_rfl) (by simp) (AllReadyH.cons rfl (fun K hK=>?_) AllReadyH.nil)
     clear hHeld
     go_simp
     with_reducible refine(KI.out).mono ?_
     rintro e w5 ⟨rfl,rfl⟩
     go_wp2_with fail
     refine hK.out _ _ (HS0.out) (fun hHeld=>?_)
     clear hK K
     try simp only[Act.put,zzA,zzB,zzC,zzD,zzE,zzF]
     refine wpAnyH_take (i:=12) (v:=?_) rfl (by kernel_rfl) (by kernel_rfl) (by kernel_rfl) (fun _ _ _ h=>h) (Or.inl ⟨by rfl,?_⟩) hHeld ?_
     rotate_left 1
     ·(intro w hSw;(try dsimp only at hSw);go_simp;try with_reducible rfl)
     try simp only[Act.put,zzA,zzB,zzC,zzD,zzE,zzF]
     refine wpAnyH_take (i:=13) (v:=?_) rfl (by kernel_rfl) (by kernel_rfl) (by kernel_rfl) (fun _ _ _ h=>h) (Or.inl ⟨by rfl,?_⟩) hHeld ?_
     rotate_left 1
     ·(intro w hSw;(try dsimp only at hSw);go_simp;try with_reducible rfl)
     try simp only[Act.put,zzA,zzB,zzC,zzD,zzE,zzF]
     refine wpAnyH_take (i:=14) (v:=?_) rfl (by kernel_rfl) (by kernel_rfl) (by kernel_rfl) (fun _ _ _ h=>h) (Or.inl ⟨by rfl,?_⟩) hHeld ?_
     rotate_left 1
     ·(intro w hSw;(try dsimp only at hSw);go_simp;try with_reducible rfl)
     try simp only[Act.put,zzA,zzB,zzC,zzD,zzE,zzF]
     refine wpAnyH_take (i:=15) (v:=undef) rfl (by kernel_rfl) (by kernel_rfl) (by kernel_rfl) (fun _ _ _ h=>h) (Or.inr ⟨by rfl,rfl⟩) hHeld ?_
     try simp only[Act.put,zzA,zzB,zzC,zzD,zzE,zzF]
     refine wpAnyH_take (i:=16) (v:=undef) rfl (by kernel_rfl) (by kernel_rfl) (by kernel_rfl) (fun _ _ _ h=>h) (Or.inr ⟨by rfl,rfl⟩) hHeld ?_
     try simp only[Act.put,zzA,zzB,zzC,zzD,zzE,zzF]
     refine wpAnyH_take (i:=17) (v:=undef) rfl (by kernel_rfl) (by kernel_rfl) (by kernel_rfl) (fun _ _ _ h=>h) (Or.inr ⟨by rfl,rfl⟩) hHeld ?_
     try simp only[Act.put,zzA,zzB,zzC,zzD,zzE,zzF]
     refine wpAnyH_take (i:=18) (v:=undef) rfl (by kernel_rfl) (by kernel_rfl) (by kernel_rfl) (fun _ _ _ h=>h) (Or.inr ⟨by rfl,rfl⟩) hHeld ?_
     try simp only[Act.put,zzA,zzB,zzC,zzD,zzE,zzF]
     refine wpAnyH_take (i:=19) (v:=undef) rfl (by kernel_rfl) (by kernel_rfl) (by kernel_rfl) (fun _ _ _ h=>h) (Or.inr ⟨by rfl,rfl⟩) hHeld ?_
     try simp only[Act.put,zzA,zzB,zzC,zzD,zzE,zzF]
     refine wpAnyH_take (i:=20) (v:=undef) rfl (by kernel_rfl) (by kernel_rfl) (by kernel_rfl) (fun _ _ _ h=>h) (Or.inr ⟨by rfl,rfl⟩) hHeld ?_
     try simp only[Act.put,zzA,zzB,zzC,zzD,zzE,zzF]
     refine wpAnyH_take (i:=21) (v:=?_) rfl (by kernel_rfl) (by kernel_rfl) (by kernel_rfl) (fun _ _ _ h=>h) (Or.inl ⟨by rfl,?_⟩) hHeld ?_
     rotate_left 1
     ·(intro w hSw;(try dsimp only at hSw);go_simp;try with_reducible rfl)
     try simp only[Act.put,zzA,zzB,zzC,zzD,zzE,zzF]
     refine wpAnyH_take (i:=22) (v:=?_) rfl (by kernel_rfl) (by kernel_rfl) (by kernel_rfl) (fun _ _ _ h=>h) (Or.inl ⟨by rfl,?_⟩) hHeld ?_
     rotate_left 1
     ·(intro w hSw;(try dsimp only at hSw);go_simp;try with_reducible rfl)
     try simp only[Act.put,zzA,zzB,zzC,zzD,zzE,zzF]
     refine wpAnyH_take (i:=23) (v:=undef) rfl (by kernel_rfl) (by kernel_rfl) (by kernel_rfl) (fun _ _ _ h=>h) (Or.inr ⟨by rfl,rfl⟩) hHeld ?_
     try simp only[Act.put,zzA,zzB,zzC,zzD,zzE,zzF]
     refine wpAnyH_take (i:=24) (v:=undef) rfl (by kernel_rfl) (by kernel_rfl) (by kernel_rfl) (fun _ _ _ h=>h) (Or.inr ⟨by rfl,rfl⟩) hHeld ?_
     try simp only[Act.put,zzA,zzB,zzC,zzD,zzE,zzF]
     refine wpAnyH_take (i:=25) (v:=undef) rfl (by kernel_rfl) (by kernel_rfl) (by kernel_rfl) (fun _ _ _ h=>h) (Or.inr ⟨by rfl,rfl⟩) hHeld ?_
     try simp only[Act.put,zzA,zzB,zzC,zzD,zzE,zzF]
     refine wpAnyH_take (i:=26) (v:=undef) rfl (by kernel_rfl) (by kernel_rfl) (by kernel_rfl) (fun _ _ _ h=>h) (Or.inr ⟨by rfl,rfl⟩) hHeld ?_
     try simp only[Act.put,zzA,zzB,zzC,zzD,zzE,zzF]
     refine wpAnyH_take (i:=27) (v:=?_) rfl (by kernel_rfl) (by kernel_rfl) (by kernel_rfl) (fun _ _ _ h=>h) (Or.inl ⟨by rfl,?_⟩) hHeld ?_
     rotate_left 1
     ·(intro w hSw;(try dsimp only at hSw);go_simp;try with_reducible rfl)
     try simp only[Act.put,zzA,zzB,zzC,zzD,zzE,zzF]
     refine wpAnyH_done (by kernel_rfl) ?_ _
     refine NoPanic.normal ?_
     go_wp2
     have hkb:(k:Int)+1≤9223372036854775807:=by
      have:=HLEN.out
      have hm:maxLen≤9223372036854775807:=of_decide_eq_true (by kernel_rfl)
      omega
     have hwr:wrap64 ((k:Int)+1)=(k:Int)+1:=by unfold wrap64;omega
     go_roundw
     case rel=>
      refine⟨k+1,by rw[hwr];rfl,by omega,?_,?_,?_,HC6.out.trans ((G.refl _).drew).chg,HS0.out.2.2.1,HTB6.out.G ((G.refl _).drew),HSZ6.out⟩
      ·rw[HO1.out];exact own_G HOW6.out ((G.refl _).drew)
      ·rw[HH1.out];exact HT6.out.G ((G.refl _).drew)
      ·rw[HH1.out];exact HE6.out.G ((G.refl _).drew)
     case measure=>rw[hwr];simp[RowKit.intOf];omega
    | false=>
     rw[hhb] at KI
     cases hf:fitB qm o2 with
     | true=>
      have HCAN:Hid (canB s p.stamp qm (o1,o2)=false):=by simp[Hid,canB,HB.out,hf]
      have HH1:Hid (hitsL s qm p (beh.take (k+1))=pk):=by
       show _=_
       rw[HTK.out,hitsL_snoc,(hitsL_same s qm p (beh.take k)).1,HCAN.out,←HPK.out];rfl
      have HO1:Hid (outL s qm x p (beh.take (k+1))=outL s qm x p (beh.take k)):=by
       show _=_
       rw[HTK.out,outL_snoc,HCAN.out];rfl
      rw[hf] at KF
      clear hhb hf
      refine wp_region_noPanic ?_
      refine wp_region_held_drew (S:=(fun W=>Blk W p.blk 63 p.cells∧Blk W b.blk 63 b.cells∧Blk W w.heap.size 68 [I x,I qm]∧Blk W n10 68 [I o1,I o2])) (by kernel_rfl) (HS0.out) (fun hHeld=>?_)
      refine wpAnyH_take (i:=0) (v:=?_) rfl (by kernel_rfl) (by kernel_rfl) (by kernel_rfl) (fun _ _ _ h=>h) (Or.inl ⟨by rfl,?_⟩) hHeld ?_
      rotate_left 1
      ·(intro w hSw;obtain⟨q1,q2,q3,q4⟩:=hSw;have c1:=q1.cell;have c2:=q2.cell;have c3:=q3.cell;have c4:=q4.cell;simp only[Pt.cells] at c1 c2;go_simp;try with_reducible rfl)
      try simp only[Act.put,zzA,zzB,zzD,zzE,zzF]
      refine wpAnyH_take (i:=1) (v:=?_) rfl (by kernel_rfl) (by kernel_rfl) (by kernel_rfl) (fun _ _ _ h=>h) (Or.inl ⟨by rfl,?_⟩) hHeld ?_
      rotate_left 1
      ·(intro w hSw;obtain⟨q1,q2,q3,q4⟩:=hSw;have c1:=q1.cell;have c2:=q2.cell;have c3:=q3.cell;have c4:=q4.cell;simp only[Pt.cells] at c1 c2;go_simp;try with_reducible rfl)
      try simp only[Act.put,zzA,zzB,zzC,zzD,zzE,zzF]
      refine wpAnyH_take (i:=2) (v:=?_) rfl (by kernel_rfl) (by kernel_rfl) (by kernel_rfl) (fun _ _ _ h=>h) (Or.inl ⟨by rfl,?_⟩) hHeld ?_
      rotate_left 1
      ·(intro w hSw;obtain⟨q1,q2,q3,q4⟩:=hSw;have c1:=q1.cell;have c2:=q2.cell;have c3:=q3.cell;have c4:=q4.cell;simp only[Pt.cells] at c1 c2;go_simp;try with_reducible rfl)
      try simp only[Act.put,zzA,zzB,zzC,zzD,zzE,zzF]
      refine wpAnyH_take (i:=3) (v:=?_) rfl (by kernel_rfl) (by kernel_rfl) (by kernel_rfl) (fun _ _ _ h=>h) (Or.inl ⟨by rfl,?_⟩) hHeld ?_
      rotate_left 1
      ·(intro w hSw;obtain⟨q1,q2,q3,q4⟩:=hSw;have c1:=q1.cell;have c2:=q2.cell;have c3:=q3.cell;have c4:=q4.cell;simp only[Pt.cells] at c1 c2;go_simp;try with_reducible rfl)
      try simp only[Act.put,zzA,zzB,zzC,zzD,zzE,zzF]
      refine wpAnyH_take (i:=4) (v:=?_) rfl (by kernel_rfl) (by kernel_rfl) (by kernel_rfl) (fun _ _ _ h=>h) (Or.inl ⟨by rfl,?_⟩) hHeld ?_
      rotate_left 1
      ·(intro w hSw;obtain⟨q1,q2,q3,q4⟩:=hSw;have c1:=q1.cell;have c2:=q2.cell;have c3:=q3.cell;have c4:=q4.cell;simp only[Pt.cells] at c1 c2;go_simp;try with_reducible rfl)
      try simp only[Act.put,zzA,zzB,zzC,zzD,zzE,zzF]
      refine wpAnyH_take (i:=5) (v:=?_) rfl (by kernel_rfl) (by kernel_rfl) (by kernel_rfl) (fun _ _ _ h=>h) (Or.inl ⟨by rfl,?_⟩) hHeld ?_
      rotate_left 1
      ·(intro w hSw;obtain⟨q1,q2,q3,q4⟩:=hSw;have c1:=q1.cell;have c2:=q2.cell;have c3:=q3.cell;have c4:=q4.cell;simp only[Pt.cells] at c1 c2;go_simp;try with_reducible rfl)
      try simp only[Act.put,zzA,zzB,zzC,zzD,zzE,zzF]
      refine wpAnyH_take (i:=6) (v:=?_) rfl (by kernel_rfl) (by kernel_rfl) (by kernel_rfl) (fun _ _ _ h=>h) (Or.inl ⟨by rfl,?_⟩) hHeld ?_
      rotate_left 1
      ·(intro w hSw;obtain⟨q1,q2,q3,q4⟩:=hSw;have c1:=q1.cell;have c2:=q2.cell;have c3:=q3.cell;have c4:=q4.cell;simp only[Pt.cells] at c1 c2;go_simp;try with_reducible rfl)
      try simp only[Act.put,zzA,zzB,zzC,zzD,zzE,zzF]
      refine wpAnyH_take (i:=7) (v:=?_) rfl (by kernel_rfl) (by kernel_rfl) (by kernel_rfl) (fun _ _ _ h=>h) (Or.inl ⟨by rfl,?_⟩) hHeld ?_
      rotate_left 1
      ·(intro w hSw;obtain⟨q1,q2,q3,q4⟩:=hSw;have c1:=q1.cell;have c2:=q2.cell;have c3:=q3.cell;have c4:=q4.cell;simp only[Pt.cells] at c1 c2;go_simp;try with_reducible rfl)
      try simp only[Act.put,zzA,zzB,zzC,zzD,zzE,zzF]
      refine wpAnyH_take (i:=8) (v:=?_) rfl (by kernel_rfl) (by kernel_rfl) (by kernel_rfl) (fun _ _ _ h=>h) (Or.inl ⟨by rfl,?_⟩) hHeld ?_
      rotate_left 1
      ·(intro w hSw;obtain⟨q1,q2,q3,q4⟩:=hSw;have c1:=q1.cell;have c2:=q2.cell;have c3:=q3.cell;have c4:=q4.cell;simp only[Pt.cells] at c1 c2;go_simp;try with_reducible rfl)
      try simp only[Act.put,zzA,zzB,zzC,zzD,zzE,zzF]
      refine wpAnyH_take (i:=9) (v:=?_) rfl (by kernel_rfl) (by kernel_rfl) (by kernel_rfl) (fun _ _ _ h=>h) (Or.inl ⟨by rfl,?_⟩) hHeld ?_
      rotate_left 1
      ·(intro w hSw;obtain⟨q1,q2,q3,q4⟩:=hSw;have c1:=q1.cell;have c2:=q2.cell;have c3:=q3.cell;have c4:=q4.cell;simp only[Pt.cells] at c1 c2;go_simp;try with_reducible rfl)
      try simp only[Act.put,zzA,zzB,zzC,zzD,zzE,zzF]
      refine wpAnyH_take (i:=10) (v:=?_) rfl (by kernel_rfl) (by kernel_rfl) (by kernel_rfl) (fun _ _ _ h=>h) (Or.inl ⟨by rfl,?_⟩) hHeld ?_
      rotate_left 1
      ·(intro w hSw;(try dsimp only at hSw);go_simp;try with_reducible rfl)
      try simp only[Act.put,zzA,zzB,zzC,zzD,zzE,zzF]
      refine wpAnyH_ready (rs:=[11]) (by kernel_rfl) (by simp) (AllReadyH.cons rfl (fun K hK=>?_) AllReadyH.nil)
      clear hHeld
      go_simp
      with_reducible refine(KI.out).mono ?_
      rintro e w5 ⟨rfl,rfl⟩
      go_wp2_with fail
      refine hK.out _ _ (HS0.out) (fun hHeld=>?_)
      clear hK K
      try simp only[Act.put,zzA,zzB,zzC,zzD,zzE,zzF]
      refine wpAnyH_take (i:=12) (v:=?_) rfl (by kernel_rfl) (by kernel_rfl) (by kernel_rfl) (fun _ _ _ h=>h) (Or.inl ⟨by rfl,?_⟩) hHeld ?_
      rotate_left 1
      ·(intro w hSw;(try dsimp only at hSw);go_simp;try with_reducible rfl)
      try simp only[Act.put,zzA,zzB,zzC,zzD,zzE,zzF]
      refine wpAnyH_take (i:=13) (v:=?_) rfl (by kernel_rfl) (by kernel_rfl) (by kernel_rfl) (fun _ _ _ h=>h) (Or.inl ⟨by rfl,?_⟩) hHeld ?_
      rotate_left 1
      ·(intro w hSw;(try dsimp only at hSw);go_simp;try with_reducible rfl)
      try simp only[Act.put,zzA,zzB,zzC,zzD,zzE,zzF]
      refine wpAnyH_take (i:=14) (v:=?_) rfl (by kernel_rfl) (by kernel_rfl) (by kernel_rfl) (fun _ _ _ h=>h) (Or.inl ⟨by rfl,?_⟩) hHeld ?_
      rotate_left 1
      ·(intro w hSw;(try dsimp only at hSw);go_simp;try with_reducible rfl)
      try simp only[Act.put,zzA,zzB,zzC,zzD,zzE,zzF]
      refine wpAnyH_take (i:=15) (v:=?_) rfl (by kernel_rfl) (by kernel_rfl) (by kernel_rfl) (fun _ _ _ h=>h) (Or.inl ⟨by rfl,?_⟩) hHeld ?_
      rotate_left 1
      ·(intro w hSw;obtain⟨q1,q2,q3,q4⟩:=hSw;have c1:=q1.cell;have c2:=q2.cell;have c3:=q3.cell;have c4:=q4.cell;simp only[Pt.cells] at c1 c2;go_simp;try with_reducible rfl)
      try simp only[Act.put,zzA,zzB,zzC,zzD,zzE,zzF]
      refine wpAnyH_take (i:=16) (v:=?_) rfl (by kernel_rfl) (by kernel_rfl) (by kernel_rfl) (fun _ _ _ h=>h) (Or.inl ⟨by rfl,?_⟩) hHeld ?_
      rotate_left 1
      ·(intro w hSw;obtain⟨q1,q2,q3,q4⟩:=hSw;have c1:=q1.cell;have c2:=q2.cell;have c3:=q3.cell;have c4:=q4.cell;simp only[Pt.cells] at c1 c2;go_simp;try with_reducible rfl)
      try simp only[Act.put,zzA,zzB,zzC,zzD,zzE,zzF]
      refine wpAnyH_take (i:=17) (v:=?_) rfl (by kernel_rfl) (by kernel_rfl) (by kernel_rfl) (fun _ _ _ h=>h) (Or.inl ⟨by rfl,?_⟩) hHeld ?_
      rotate_left 1
      ·(intro w hSw;obtain⟨q1,q2,q3,q4⟩:=hSw;have c1:=q1.cell;have c2:=q2.cell;have c3:=q3.cell;have c4:=q4.cell;simp only[Pt.cells] at c1 c2;go_simp;try with_reducible rfl)
      try simp only[Act.put,zzA,zzB,zzC,zzD,zzE,zzF]
      refine wpAnyH_take (i:=18) (v:=?_) rfl (by kernel_rfl) (by kernel_rfl) (by kernel_rfl) (fun _ _ _ h=>h) (Or.inl ⟨by rfl,?_⟩) hHeld ?_
      rotate_left 1
      ·(intro w hSw;obtain⟨q1,q2,q3,q4⟩:=hSw;have c1:=q1.cell;have c2:=q2.cell;have c3:=q3.cell;have c4:=q4.cell;simp only[Pt.cells] at c1 c2;go_simp;try with_reducible rfl)
      try simp only[Act.put,zzA,zzB,zzC,zzD,zzE,zzF]
      refine wpAnyH_ready (rs:=[19]) (by kernel_rfl) (by simp) (AllReadyH.cons rfl (fun K hK=>?_) AllReadyH.nil)
      clear hHeld
      go_simp
      with_reducible refine(KF.out).mono ?_
      rintro e w5 ⟨rfl,rfl⟩
      go_wp2_with fail
      refine hK.out _ _ (HS0.out) (fun hHeld=>?_)
      clear hK K
      try simp only[Act.put,zzA,zzB,zzC,zzD,zzE,zzF]
      refine wpAnyH_take (i:=20) (v:=?_) rfl (by kernel_rfl) (by kernel_rfl) (by kernel_rfl) (fun _ _ _ h=>h) (Or.inl ⟨by rfl,?_⟩) hHeld ?_
      rotate_left 1
      ·(intro w hSw;(try dsimp only at hSw);go_simp;try with_reducible rfl)
      try simp only[Act.put,zzA,zzB,zzC,zzD,zzE,zzF]
      refine wpAnyH_take (i:=21) (v:=?_) rfl (by kernel_rfl) (by kernel_rfl) (by kernel_rfl) (fun _ _ _ h=>h) (Or.inl ⟨by rfl,?_⟩) hHeld ?_
      rotate_left 1
      ·(intro w hSw;(try dsimp only at hSw);go_simp;try with_reducible rfl)
      try simp only[Act.put,zzA,zzB,zzC,zzD,zzE,zzF]
      refine wpAnyH_take (i:=22) (v:=?_) rfl (by kernel_rfl) (by kernel_rfl) (by kernel_rfl) (fun _ _ _ h=>h) (Or.inl ⟨by rfl,?_⟩) hHeld ?_
      rotate_left 1
      ·(intro w hSw;(try dsimp only at hSw);go_simp;try with_reducible rfl)
      try simp only[Act.put,zzA,zzB,zzC,zzD,zzE,zzF]
      refine wpAnyH_take (i:=23) (v:=undef) rfl (by kernel_rfl) (by kernel_rfl) (by kernel_rfl) (fun _ _ _ h=>h) (Or.inr ⟨by rfl,rfl⟩) hHeld ?_
      try simp only[Act.put,zzA,zzB,zzC,zzD,zzE,zzF]
      refine wpAnyH_take (i:=24) (v:=undef) rfl (by kernel_rfl) (by kernel_rfl) (by kernel_rfl) (fun _ _ _ h=>h) (Or.inr ⟨by rfl,rfl⟩) hHeld ?_
      try simp only[Act.put,zzA,zzB,zzC,zzD,zzE,zzF]
      refine wpAnyH_take (i:=25) (v:=undef) rfl (by kernel_rfl) (by kernel_rfl) (by kernel_rfl) (fun _ _ _ h=>h) (Or.inr ⟨by rfl,rfl⟩) hHeld ?_
      try simp only[Act.put,zzA,zzB,zzC,zzD,zzE,zzF]
      refine wpAnyH_take (i:=26) (v:=undef) rfl (by kernel_rfl) (by kernel_rfl) (by kernel_rfl) (fun _ _ _ h=>h) (Or.inr ⟨by rfl,rfl⟩) hHeld ?_
      try simp only[Act.put,zzA,zzB,zzC,zzD,zzE,zzF]
      refine wpAnyH_take (i:=27) (v:=?_) rfl (by kernel_rfl) (by kernel_rfl) (by kernel_rfl) (fun _ _ _ h=>h) (Or.inl ⟨by rfl,?_⟩) hHeld ?_
      rotate_left 1
      ·(intro w hSw;(try dsimp only at hSw);go_simp;try with_reducible rfl)
      try simp only[Act.put,zzA,zzB,zzC,zzD,zzE,zzF]
      refine wpAnyH_done (by kernel_rfl) ?_ _
      refine NoPanic.normal ?_
      go_wp2
      have hkb:(k:Int)+1≤9223372036854775807:=by
       have:=HLEN.out
       have hm:maxLen≤9223372036854775807:=of_decide_eq_true (by kernel_rfl)
       omega
      have hwr:wrap64 ((k:Int)+1)=(k:Int)+1:=by unfold wrap64;omega
      go_roundw
      case rel=>
       refine⟨k+1,by rw[hwr];rfl,by omega,?_,?_,?_,HC6.out.trans ((G.refl _).drew).chg,HS0.out.2.2.1,HTB6.out.G ((G.refl _).drew),HSZ6.out⟩
       ·rw[HO1.out];exact own_G HOW6.out ((G.refl _).drew)
       ·rw[HH1.out];exact HT6.out.G ((G.refl _).drew)
       ·rw[HH1.out];exact HE6.out.G ((G.refl _).drew)
      case measure=>rw[hwr];simp[RowKit.intOf];omega
     | false=>
      have HCAN:Hid (canB s p.stamp qm (o1,o2)=true):=by simp[Hid,canB,HB.out,hf,hst,hhb]
      have HH1:Hid (hitsL s qm p (beh.take (k+1))=pk.hit o1):=by
       show _=_
       rw[HTK.out,hitsL_snoc,(hitsL_same s qm p (beh.take k)).1,HCAN.out,←HPK.out];rfl
      have HO1:Hid (outL s qm x p (beh.take (k+1))=if pk.hurt then outL s qm x p (beh.take k)else outL s qm x p (beh.take k)++[x]):=by
       show _=_
       rw[HTK.out,outL_snoc,HCAN.out,←HPK.out]
       cases pk.hurt<;>rfl
      rw[hf] at KF
      clear hhb hf
      refine wp_region_noPanic ?_
      refine wp_region_held_drew (S:=(fun W=>Blk W p.blk 63 p.cells∧Blk W b.blk 63 b.cells∧Blk W w.heap.size 68 [I x,I qm]∧Blk W n10 68 [I o1,I o2])) (by kernel_rfl) (HS0.out) (fun hHeld=>?_)
      refine wpAnyH_take (i:=0) (v:=?_) rfl (by kernel_rfl) (by kernel_rfl) (by kernel_rfl) (fun _ _ _ h=>h) (Or.inl ⟨by rfl,?_⟩) hHeld ?_
      rotate_left 1
      ·(intro w hSw;obtain⟨q1,q2,q3,q4⟩:=hSw;have c1:=q1.cell;have c2:=q2.cell;have c3:=q3.cell;have c4:=q4.cell;simp only[Pt.cells] at c1 c2;go_simp;try with_reducible rfl)
      try simp only[Act.put,zzA,zzB,zzD,zzE,zzF]
      refine wpAnyH_take (i:=1) (v:=?_) rfl (by kernel_rfl) (by kernel_rfl) (by kernel_rfl) (fun _ _ _ h=>h) (Or.inl ⟨by rfl,?_⟩) hHeld ?_
      rotate_left 1
      ·(intro w hSw;obtain⟨q1,q2,q3,q4⟩:=hSw;have c1:=q1.cell;have c2:=q2.cell;have c3:=q3.cell;have c4:=q4.cell;simp only[Pt.cells] at c1 c2;go_simp;try with_reducible rfl)
      try simp only[Act.put,zzA,zzB,zzC,zzD,zzE,zzF]
      refine wpAnyH_take (i:=2) (v:=?_) rfl (by kernel_rfl) (by kernel_rfl) (by kernel_rfl) (fun _ _ _ h=>h) (Or.inl ⟨by rfl,?_⟩) hHeld ?_
      rotate_left 1
      ·(intro w hSw;obtain⟨q1,q2,q3,q4⟩:=hSw;have c1:=q1.cell;have c2:=q2.cell;have c3:=q3.cell;have c4:=q4.cell;simp only[Pt.cells] at c1 c2;go_simp;try with_reducible rfl)
      try simp only[Act.put,zzA,zzB,zzC,zzD,zzE,zzF]
      refine wpAnyH_take (i:=3) (v:=?_) rfl (by kernel_rfl) (by kernel_rfl) (by kernel_rfl) (fun _ _ _ h=>h) (Or.inl ⟨by rfl,?_⟩) hHeld ?_
      rotate_left 1
      ·(intro w hSw;obtain⟨q1,q2,q3,q4⟩:=hSw;have c1:=q1.cell;have c2:=q2.cell;have c3:=q3.cell;have c4:=q4.cell;simp only[Pt.cells] at c1 c2;go_simp;try with_reducible rfl)
      try simp only[Act.put,zzA,zzB,zzC,zzD,zzE,zzF]
      refine wpAnyH_take (i:=4) (v:=?_) rfl (by kernel_rfl) (by kernel_rfl) (by kernel_rfl) (fun _ _ _ h=>h) (Or.inl ⟨by rfl,?_⟩) hHeld ?_
      rotate_left 1
      ·(intro w hSw;obtain⟨q1,q2,q3,q4⟩:=hSw;have c1:=q1.cell;have c2:=q2.cell;have c3:=q3.cell;have c4:=q4.cell;simp only[Pt.cells] at c1 c2;go_simp;try with_reducible rfl)
      try simp only[Act.put,zzA,zzB,zzC,zzD,zzE,zzF]
      refine wpAnyH_take (i:=5) (v:=?_) rfl (by kernel_rfl) (by kernel_rfl) (by kernel_rfl) (fun _ _ _ h=>h) (Or.inl ⟨by rfl,?_⟩) hHeld ?_
      rotate_left 1
      ·(intro w hSw;obtain⟨q1,q2,q3,q4⟩:=hSw;have c1:=q1.cell;have c2:=q2.cell;have c3:=q3.cell;have c4:=q4.cell;simp only[Pt.cells] at c1 c2;go_simp;try with_reducible rfl)
      try simp only[Act.put,zzA,zzB,zzC,zzD,zzE,zzF]
      refine wpAnyH_take (i:=6) (v:=?_) rfl (by kernel_rfl) (by kernel_rfl) (by kernel_rfl) (fun _ _ _ h=>h) (Or.inl ⟨by rfl,?_⟩) hHeld ?_
      rotate_left 1
      ·(intro w hSw;obtain⟨q1,q2,q3,q4⟩:=hSw;have c1:=q1.cell;have c2:=q2.cell;have c3:=q3.cell;have c4:=q4.cell;simp only[Pt.cells] at c1 c2;go_simp;try with_reducible rfl)
      try simp only[Act.put,zzA,zzB,zzC,zzD,zzE,zzF]
      refine wpAnyH_take (i:=7) (v:=?_) rfl (by kernel_rfl) (by kernel_rfl) (by kernel_rfl) (fun _ _ _ h=>h) (Or.inl ⟨by rfl,?_⟩) hHeld ?_
      rotate_left 1
      ·(intro w hSw;obtain⟨q1,q2,q3,q4⟩:=hSw;have c1:=q1.cell;have c2:=q2.cell;have c3:=q3.cell;have c4:=q4.cell;simp only[Pt.cells] at c1 c2;go_simp;try with_reducible rfl)
      try simp only[Act.put,zzA,zzB,zzC,zzD,zzE,zzF]
      refine wpAnyH_take (i:=8) (v:=?_) rfl (by kernel_rfl) (by kernel_rfl) (by kernel_rfl) (fun _ _ _ h=>h) (Or.inl ⟨by rfl,?_⟩) hHeld ?_
      rotate_left 1
      ·(intro w hSw;obtain⟨q1,q2,q3,q4⟩:=hSw;have c1:=q1.cell;have c2:=q2.cell;have c3:=q3.cell;have c4:=q4.cell;simp only[Pt.cells] at c1 c2;go_simp;try with_reducible rfl)
      try simp only[Act.put,zzA,zzB,zzC,zzD,zzE,zzF]
      refine wpAnyH_take (i:=9) (v:=?_) rfl (by kernel_rfl) (by kernel_rfl) (by kernel_rfl) (fun _ _ _ h=>h) (Or.inl ⟨by rfl,?_⟩) hHeld ?_
      rotate_left 1
      ·(intro w hSw;obtain⟨q1,q2,q3,q4⟩:=hSw;have c1:=q1.cell;have c2:=q2.cell;have c3:=q3.cell;have c4:=q4.cell;simp only[Pt.cells] at c1 c2;go_simp;try with_reducible rfl)
      try simp only[Act.put,zzA,zzB,zzC,zzD,zzE,zzF]
      refine wpAnyH_take (i:=10) (v:=?_) rfl (by kernel_rfl) (by kernel_rfl) (by kernel_rfl) (fun _ _ _ h=>h) (Or.inl ⟨by rfl,?_⟩) hHeld ?_
      rotate_left 1
      ·(intro w hSw;(try dsimp only at hSw);go_simp;try with_reducible rfl)
      try simp only[Act.put,zzA,zzB,zzC,zzD,zzE,zzF]
      refine wpAnyH_ready (rs:=[11]) (by kernel_rfl) (by simp) (AllReadyH.cons rfl (fun K hK=>?_) AllReadyH.nil)
      clear hHeld
      go_simp
      with_reducible refine(KI.out).mono ?_
      rintro e w5 ⟨rfl,rfl⟩
      go_wp2_with fail
      refine hK.out _ _ (HS0.out) (fun hHeld=>?_)
      clear hK K
      try simp only[Act.put,zzA,zzB,zzC,zzD,zzE,zzF]
      refine wpAnyH_take (i:=12) (v:=?_) rfl (by kernel_rfl) (by kernel_rfl) (by kernel_rfl) (fun _ _ _ h=>h) (Or.inl ⟨by rfl,?_⟩) hHeld ?_
      rotate_left 1
      ·(intro w hSw;(try dsimp only at hSw);go_simp;try with_reducible rfl)
      try simp only[Act.put,zzA,zzB,zzC,zzD,zzE,zzF]
      refine wpAnyH_take (i:=13) (v:=?_) rfl (by kernel_rfl) (by kernel_rfl) (by kernel_rfl) (fun _ _ _ h=>h) (Or.inl ⟨by rfl,?_⟩) hHeld ?_
      rotate_left 1
      ·(intro w hSw;(try dsimp only at hSw);go_simp;try with_reducible rfl)
      try simp only[Act.put,zzA,zzB,zzC,zzD,zzE,zzF]
      refine wpAnyH_take (i:=14) (v:=?_) rfl (by kernel_rfl) (by kernel_rfl) (by kernel_rfl) (fun _ _ _ h=>h) (Or.inl ⟨by rfl,?_⟩) hHeld ?_
      rotate_left 1
      ·(intro w hSw;(try dsimp only at hSw);go_simp;try with_reducible rfl)
      try simp only[Act.put,zzA,zzB,zzC,zzD,zzE,zzF]
      refine wpAnyH_take (i:=15) (v:=?_) rfl (by kernel_rfl) (by kernel_rfl) (by kernel_rfl) (fun _ _ _ h=>h) (Or.inl ⟨by rfl,?_⟩) hHeld ?_
      rotate_left 1
      ·(intro w hSw;obtain⟨q1,q2,q3,q4⟩:=hSw;have c1:=q1.cell;have c2:=q2.cell;have c3:=q3.cell;have c4:=q4.cell;simp only[Pt.cells] at c1 c2;go_simp;try with_reducible rfl)
      try simp only[Act.put,zzA,zzB,zzC,zzD,zzE,zzF]
      refine wpAnyH_take (i:=16) (v:=?_) rfl (by kernel_rfl) (by kernel_rfl) (by kernel_rfl) (fun _ _ _ h=>h) (Or.inl ⟨by rfl,?_⟩) hHeld ?_
      rotate_left 1
      ·(intro w hSw;obtain⟨q1,q2,q3,q4⟩:=hSw;have c1:=q1.cell;have c2:=q2.cell;have c3:=q3.cell;have c4:=q4.cell;simp only[Pt.cells] at c1 c2;go_simp;try with_reducible rfl)
      try simp only[Act.put,zzA,zzB,zzC,zzD,zzE,zzF]
      refine wpAnyH_take (i:=17) (v:=?_) rfl (by kernel_rfl) (by kernel_rfl) (by kernel_rfl) (fun _ _ _ h=>h) (Or.inl ⟨by rfl,?_⟩) hHeld ?_
      rotate_left 1
      ·(intro w hSw;obtain⟨q1,q2,q3,q4⟩:=hSw;have c1:=q1.cell;have c2:=q2.cell;have c3:=q3.cell;have c4:=q4.cell;simp only[Pt.cells] at c1 c2;go_simp;try with_reducible rfl)
      try simp only[Act.put,zzA,zzB,zzC,zzD,zzE,zzF]
      refine wpAnyH_take (i:=18) (v:=?_) rfl (by kernel_rfl) (by kernel_rfl) (by kernel_rfl) (fun _ _ _ h=>h) (Or.inl ⟨by rfl,?_⟩) hHeld ?_
      rotate_left 1
      ·(intro w hSw;obtain⟨q1,q2,q3,q4⟩:=hSw;have c1:=q1.cell;have c2:=q2.cell;have c3:=q3.cell;have c4:=q4.cell;simp only[Pt.cells] at c1 c2;go_simp;try with_reducible rfl)
      try simp only[Act.put,zzA,zzB,zzC,zzD,zzE,zzF]
      refine wpAnyH_ready (rs:=[19]) (by kernel_rfl) (by simp) (AllReadyH.cons rfl (fun K hK=>?_) AllReadyH.nil)
      clear hHeld
      go_simp
      with_reducible refine(KF.out).mono ?_
      rintro e w5 ⟨rfl,rfl⟩
      go_wp2_with fail
      refine hK.out _ _ (HS0.out) (fun hHeld=>?_)
      clear hK K
      try simp only[Act.put,zzA,zzB,zzC,zzD,zzE,zzF]
      refine wpAnyH_take (i:=20) (v:=?_) rfl (by kernel_rfl) (by kernel_rfl) (by kernel_rfl) (fun _ _ _ h=>h) (Or.inl ⟨by rfl,?_⟩) hHeld ?_
      rotate_left 1
      ·(intro w hSw;(try dsimp only at hSw);go_simp;try with_reducible rfl)
      try simp only[Act.put,zzA,zzB,zzC,zzD,zzE,zzF]
      refine wpAnyH_take (i:=21) (v:=?_) rfl (by kernel_rfl) (by kernel_rfl) (by kernel_rfl) (fun _ _ _ h=>h) (Or.inl ⟨by rfl,?_⟩) hHeld ?_
      rotate_left 1
      ·(intro w hSw;(try dsimp only at hSw);go_simp;try with_reducible rfl)
      try simp only[Act.put,zzA,zzB,zzC,zzD,zzE,zzF]
      refine wpAnyH_take (i:=22) (v:=?_) rfl (by kernel_rfl) (by kernel_rfl) (by kernel_rfl) (fun _ _ _ h=>h) (Or.inl ⟨by rfl,?_⟩) hHeld ?_
      rotate_left 1
      ·(intro w hSw;(try dsimp only at hSw);go_simp;try with_reducible rfl)
      try simp only[Act.put,zzA,zzB,zzC,zzD,zzE,zzF]
      refine wpAnyH_take (i:=23) (v:=?_) rfl (by kernel_rfl) (by kernel_rfl) (by kernel_rfl) (fun _ _ _ h=>h) (Or.inl ⟨by rfl,?_⟩) hHeld ?_
      rotate_left 1
      ·(intro w hSw;(try dsimp only at hSw);go_simp;try with_reducible rfl)
      try simp only[Act.put,zzA,zzB,zzC,zzD,zzE,zzF]
      refine wpAnyH_take (i:=24) (v:=?_) rfl (by kernel_rfl) (by kernel_rfl) (by kernel_rfl) (fun _ _ _ h=>h) (Or.inl ⟨by rfl,?_⟩) hHeld ?_
      rotate_left 1
      ·(intro w hSw;obtain⟨q1,q2,q3,q4⟩:=hSw;have c1:=q1.cell;have c2:=q2.cell;have c3:=q3.cell;have c4:=q4.cell;simp only[Pt.cells] at c1 c2;go_simp;try with_reducible rfl)
      try simp only[Act.put,zzA,zzB,zzC,zzD,zzE,zzF]
      refine wpAnyH_take (i:=25) (v:=?_) rfl (by kernel_rfl) (by kernel_rfl) (by kernel_rfl) (fun _ _ _ h=>h) (Or.inl ⟨by rfl,?_⟩) hHeld ?_
      rotate_left 1
      ·(intro w hSw;obtain⟨q1,q2,q3,q4⟩:=hSw;have c1:=q1.cell;have c2:=q2.cell;have c3:=q3.cell;have c4:=q4.cell;simp only[Pt.cells] at c1 c2;go_simp;try with_reducible rfl)
      try simp only[Act.put,zzA,zzB,zzC,zzD,zzE,zzF]
      refine wpAnyH_ready (rs:=[26]) (by kernel_rfl) (by simp) (AllReadyH.cons rfl (fun K hK=>?_) AllReadyH.nil)
      clear hHeld
      go_simp
      with_reducible refine(KW.out).mono ?_
      rintro e w7 ⟨rfl,hT7,hE7,hC7,hs7⟩
      have HT7:=hide hT7
      have HE7:=hide hE7
      have HC7:=hide hC7
      have HS7:=hide hs7
      clear hT7 hE7 hC7 hs7
      go_wp2_with fail
      refine hK.out _ _ (⟨HS0.out.1.chg HC7.out HN.out.1,HS0.out.2.1.chg HC7.out HN.out.2.1,HS0.out.2.2.1.chg HC7.out HN.out.2.2.1,HS0.out.2.2.2.chg HC7.out HN.out.2.2.2⟩) (fun hHeld=>?_)
      clear hK K
      try simp only[Act.put,zzA,zzB,zzC,zzD,zzE,zzF]
      refine wpAnyH_take (i:=27) (v:=?_) rfl (by kernel_rfl) (by kernel_rfl) (by kernel_rfl) (fun _ _ _ h=>h) (Or.inl ⟨by rfl,?_⟩) hHeld ?_
      rotate_left 1
      ·(intro w hSw;(try dsimp only at hSw);go_simp;try with_reducible rfl)
      try simp only[Act.put,zzA,zzB,zzC,zzD,zzE,zzF]
      refine wpAnyH_done (by kernel_rfl) ?_ _
      refine NoPanic.normal ?_
      have HT8:Hid (TT w7 t (s.setPt x (pk.hit o1))):=by
       have T7:TT w7 t ((s.setPt x pk).setPt x (pk.hit o1)):=HT7.out
       rw[Gs.setPt_setPt] at T7
       exact T7
      have HE8:Hid (Ext w w7 s (s.setPt x (pk.hit o1))):=by
       have E7:Ext W6.drew w7 (s.setPt x pk) ((s.setPt x pk).setPt x (pk.hit o1)):=HE7.out
       rw[Gs.setPt_setPt] at E7
       exact(HE6.out.G ((G.refl _).drew)).trans E7
      have HWB:Hid (pk.wb<w.heap.size):=by
       show pk.wb<w.heap.size
       rw[HSAME.out.2.2.2.1];exact HT.out.lt _ _ (HT.out.pt x p HP.out).t3
      have HC8:Hid (Chg (fun k=>k=p.wb) w w7):=(HC6.out.trans ((G.refl _).drew).chg).trans (HC7.out.mono (fun k e=>by rw[e,HSAME.out.2.2.2.1]))
      have HOW8:Hid (w7.ownsRow w.heap.size 3 1 u8 (outL s qm x p (beh.take k)).length ((outL s qm x p (beh.take k)).map fun z=>I z)):=own_chg (own_G HOW6.out ((G.refl _).drew)) HC7.out (fun g hg e=>by
       have:=(World.ownsRow.lt (own_G HOW6.out ((G.refl _).drew)) g hg).1
       have:=HWB.out
       omega)
      have HB8:Hid (Blk w7 w.heap.size 68 [I x,I qm]):=HS0.out.2.2.1.chg HC7.out HN.out.2.2.1
      have HTB8:Hid (Tb w7):=by
       have ho:=(HT.out.pt x p HP.out).t3
       rw[←HSAME.out.2.2.2.1] at ho
       have n1:1≠pk.wb:=fun e=>by have:=HGL.out.1;rw[e,ho] at this;cases this
       have n2:0≠pk.wb:=fun e=>by have:=HGL.out.2;rw[e,ho] at this;cases this
       have h0:=HTB6.out.G ((G.refl _).drew)
       exact h0.keep (HC7.out.block _ h0.lf n1) (HC7.out.block _ h0.lj n2) HC7.out.size
      have HSZ8:Hid (w.heap.size<w7.heap.size):=by
       show w.heap.size<w7.heap.size
       rw[HS7.out];exact HSZ6.out
      clear HT7 HE7 HC7 HS7 HS0 HT6 HE6 HC6 HOW6 HTB6 HB6 HB46 KI KF KW hst hst'
      cases hh:pk.hurt with
      | true=>
       rw[hh] at HO1
       have HO2:Hid (outL s qm x p (beh.take (k+1))=outL s qm x p (beh.take k)):=HO1.out
       clear HO1 hh
       go_wp2
       have hkb:(k:Int)+1≤9223372036854775807:=by
        have:=HLEN.out
        have hm:maxLen≤9223372036854775807:=of_decide_eq_true (by kernel_rfl)
        omega
       have hwr:wrap64 ((k:Int)+1)=(k:Int)+1:=by unfold wrap64;omega
       go_roundw
       case rel=>
        refine⟨k+1,by rw[hwr];rfl,by omega,?_,?_,?_,HC8.out,HB8.out,HTB8.out,HSZ8.out⟩
        ·rw[HO2.out];exact HOW8.out
        ·rw[HH1.out];exact HT8.out
        ·rw[HH1.out];exact HE8.out
       case measure=>rw[hwr];simp[RowKit.intOf];omega
      | false=>
       rw[hh] at HO1
       have HO2:Hid (outL s qm x p (beh.take (k+1))=outL s qm x p (beh.take k)++[x]):=HO1.out
       clear HO1 hh
       have hq8:=HB8.out.cell
       have hq8':(w7.cell? ⟨w.heap.size,0,none⟩)=some (I x):=hq8 0
       clear hq8
       obtain⟨i0,hi,hz0,hz1,hz2⟩:=info_parts (show(prog.info? 3).map (fun i=>(i.zero,i.size,i.bytes))=some (some (.int .i64 0),1,8)from by kernel_rfl)
       have hol:(outL s qm x p (beh.take k)).length≤1:=by unfold outL;split<;>simp
       have HOL:=hide hol
       clear hol
       go_wp2_with (first|(at_builtin;refine wpList_append_own_at _ rfl _ _ 42 rfl w.heap.size 3 i0 (.int .i64 0) 1 8 underlying42 hi hz0 hz1 hz2 rfl (by decide) _ _ _ rfl (HOW8.out.alloc _) ⟨w7.heap.size,0,none⟩ 1 1 [I x] rfl rfl (cell_one_new _ _ _) (ints_oneCell .i64 [x]) (by have:=HOL.out;have hm:2≤maxLen:=of_decide_eq_true (by kernel_rfl);omega) (by have:=HOL.out;omega) (by rw[World.size_alloc];have:=HSZ8.out;omega) ?_;intro v9 w9 hown9 hgrow9 hnil9 hloc9)|go_in)
       have ga:=(G.refl w7).alloc (.cells #[I x] 3)
       have hob:∀b,u8.ownBlock=some b→w.heap.size≤b:=fun b hb=>(World.ownsRow.lt HOW8.out b hb).1
       have c9:Chg (fun b=>u8.ownBlock=some b) (w7.alloc (.cells #[I x] 3)) w9:=⟨hgrow9.os,hgrow9.tape,hgrow9.output,hgrow9.size,fun i hi hn=>hgrow9.block i hi (fun e=>hn e.symm)⟩
       have hnb:u8.ownBlock≠some w.heap.size:=own_ne HOW8.out HB8.out (by decide)
       have hkb:(k:Int)+1≤9223372036854775807:=by
        have:=HLEN.out
        have hm:maxLen≤9223372036854775807:=of_decide_eq_true (by kernel_rfl)
        omega
       have hwr:wrap64 ((k:Int)+1)=(k:Int)+1:=by unfold wrap64;omega
       refine⟨⟨k+1,by rw[hwr];rfl,by omega,?_,?_,?_,(HC8.out.trans ga.chg).more c9 (fun i hi e=>by have:=hob i e;omega),(HB8.out.G ga).chg c9 hnb,?_,Nat.lt_of_lt_of_le HSZ8.out (Nat.le_trans ga.size c9.size)⟩,?_⟩
       ·rw[HO2.out]
        simp only[List.length_append,List.map_append,List.length_cons,List.length_nil,List.map_cons,List.map_nil]
        exact hown9
       ·rw[HH1.out]
        exact(HT8.out.G ga).chg c9 (fun b e=>by
         cases ho:(s.setPt x (pk.hit o1)).own b with
         | none=>rfl
         | some tg=>
          have h1:=hob b e
          have h2:=HT.out.lt b tg ho
          omega)
       ·rw[HH1.out]
        have E:=HE8.out.G ga
        exact⟨E.chg.more c9 (fun i hi e=>by have:=hob i e;omega),E.old,E.new⟩
       ·have h0:=HTB8.out.G ga
        exact h0.keep (c9.block _ h0.lf (fun e=>by have:=hob _ e;have:=HTB.out.lf;omega)) (c9.block _ h0.lj (fun e=>by have:=hob _ e;have:=HTB.out.lj;omega)) c9.size
       ·rw[hwr];simp[RowKit.intOf];omega
   ·have HCAN:Hid (canB s p.stamp qm (o1,o2)=false):=by simp[Hid,canB,HB.out,hst]
    have HH1:Hid (hitsL s qm p (beh.take (k+1))=pk):=by
     show _=_
     rw[HTK.out,hitsL_snoc,(hitsL_same s qm p (beh.take k)).1,HCAN.out,←HPK.out];rfl
    have HO1:Hid (outL s qm x p (beh.take (k+1))=outL s qm x p (beh.take k)):=by
     show _=_
     rw[HTK.out,outL_snoc,HCAN.out];rfl
    have hst':decide (b.stamp<p.stamp)=false:=by simp[hst]
    refine wp_region_noPanic ?_
    refine wp_region_held_drew (S:=(fun W=>Blk W p.blk 63 p.cells∧Blk W b.blk 63 b.cells∧Blk W w.heap.size 68 [I x,I qm]∧Blk W n10 68 [I o1,I o2])) (by kernel_rfl) (HS0.out) (fun hHeld=>?_)
    refine wpAnyH_take (i:=0) (v:=?_) rfl (by kernel_rfl) (by kernel_rfl) (by kernel_rfl) (fun _ _ _ h=>h) (Or.inl ⟨by rfl,?_⟩) hHeld ?_
    rotate_left 1
    ·(intro w hSw;obtain⟨q1,q2,q3,q4⟩:=hSw;have c1:=q1.cell;have c2:=q2.cell;have c3:=q3.cell;have c4:=q4.cell;simp only[Pt.cells] at c1 c2;go_simp;try with_reducible rfl)
    try simp only[Act.put,zzA,zzB,zzD,zzE,zzF]
    refine wpAnyH_take (i:=1) (v:=?_) rfl (by kernel_rfl) (by kernel_rfl) (by kernel_rfl) (fun _ _ _ h=>h) (Or.inl ⟨by rfl,?_⟩) hHeld ?_
    rotate_left 1
    ·(intro w hSw;obtain⟨q1,q2,q3,q4⟩:=hSw;have c1:=q1.cell;have c2:=q2.cell;have c3:=q3.cell;have c4:=q4.cell;simp only[Pt.cells] at c1 c2;go_simp;try with_reducible rfl)
    try simp only[Act.put,zzA,zzB,zzC,zzD,zzE,zzF]
    refine wpAnyH_take (i:=2) (v:=?_) rfl (by kernel_rfl) (by kernel_rfl) (by kernel_rfl) (fun _ _ _ h=>h) (Or.inl ⟨by rfl,?_⟩) hHeld ?_
    rotate_left 1
    ·(intro w hSw;obtain⟨q1,q2,q3,q4⟩:=hSw;have c1:=q1.cell;have c2:=q2.cell;have c3:=q3.cell;have c4:=q4.cell;simp only[Pt.cells] at c1 c2;go_simp;try with_reducible rfl)
    try simp only[Act.put,zzA,zzB,zzC,zzD,zzE,zzF]
    refine wpAnyH_take (i:=3) (v:=?_) rfl (by kernel_rfl) (by kernel_rfl) (by kernel_rfl) (fun _ _ _ h=>h) (Or.inl ⟨by rfl,?_⟩) hHeld ?_
    rotate_left 1
    ·(intro w hSw;obtain⟨q1,q2,q3,q4⟩:=hSw;have c1:=q1.cell;have c2:=q2.cell;have c3:=q3.cell;have c4:=q4.cell;simp only[Pt.cells] at c1 c2;go_simp;try with_reducible rfl)
    try simp only[Act.put,zzA,zzB,zzC,zzD,zzE,zzF]
    refine wpAnyH_take (i:=4) (v:=?_) rfl (by kernel_rfl) (by kernel_rfl) (by kernel_rfl) (fun _ _ _ h=>h) (Or.inl ⟨by rfl,?_⟩) hHeld ?_
    rotate_left 1
    ·(intro w hSw;obtain⟨q1,q2,q3,q4⟩:=hSw;have c1:=q1.cell;have c2:=q2.cell;have c3:=q3.cell;have c4:=q4.cell;simp only[Pt.cells] at c1 c2;go_simp;try with_reducible rfl)
    try simp only[Act.put,zzA,zzB,zzC,zzD,zzE,zzF]
    refine wpAnyH_take (i:=5) (v:=?_) rfl (by kernel_rfl) (by kernel_rfl) (by kernel_rfl) (fun _ _ _ h=>h) (Or.inl ⟨by rfl,?_⟩) hHeld ?_
    rotate_left 1
    ·(intro w hSw;obtain⟨q1,q2,q3,q4⟩:=hSw;have c1:=q1.cell;have c2:=q2.cell;have c3:=q3.cell;have c4:=q4.cell;simp only[Pt.cells] at c1 c2;go_simp;try with_reducible rfl)
    try simp only[Act.put,zzA,zzB,zzC,zzD,zzE,zzF]
    refine wpAnyH_take (i:=6) (v:=?_) rfl (by kernel_rfl) (by kernel_rfl) (by kernel_rfl) (fun _ _ _ h=>h) (Or.inl ⟨by rfl,?_⟩) hHeld ?_
    rotate_left 1
    ·(intro w hSw;obtain⟨q1,q2,q3,q4⟩:=hSw;have c1:=q1.cell;have c2:=q2.cell;have c3:=q3.cell;have c4:=q4.cell;simp only[Pt.cells] at c1 c2;go_simp;try with_reducible rfl)
    try simp only[Act.put,zzA,zzB,zzC,zzD,zzE,zzF]
    refine wpAnyH_take (i:=7) (v:=?_) rfl (by kernel_rfl) (by kernel_rfl) (by kernel_rfl) (fun _ _ _ h=>h) (Or.inl ⟨by rfl,?_⟩) hHeld ?_
    rotate_left 1
    ·(intro w hSw;obtain⟨q1,q2,q3,q4⟩:=hSw;have c1:=q1.cell;have c2:=q2.cell;have c3:=q3.cell;have c4:=q4.cell;simp only[Pt.cells] at c1 c2;go_simp;try with_reducible rfl)
    try simp only[Act.put,zzA,zzB,zzC,zzD,zzE,zzF]
    refine wpAnyH_take (i:=8) (v:=?_) rfl (by kernel_rfl) (by kernel_rfl) (by kernel_rfl) (fun _ _ _ h=>h) (Or.inl ⟨by rfl,?_⟩) hHeld ?_
    rotate_left 1
    ·(intro w hSw;obtain⟨q1,q2,q3,q4⟩:=hSw;have c1:=q1.cell;have c2:=q2.cell;have c3:=q3.cell;have c4:=q4.cell;simp only[Pt.cells] at c1 c2;go_simp;try with_reducible rfl)
    try simp only[Act.put,zzA,zzB,zzC,zzD,zzE,zzF]
    refine wpAnyH_take (i:=9) (v:=?_) rfl (by kernel_rfl) (by kernel_rfl) (by kernel_rfl) (fun _ _ _ h=>h) (Or.inl ⟨by rfl,?_⟩) hHeld ?_
    rotate_left 1
    ·(intro w hSw;obtain⟨q1,q2,q3,q4⟩:=hSw;have c1:=q1.cell;have c2:=q2.cell;have c3:=q3.cell;have c4:=q4.cell;simp only[Pt.cells] at c1 c2;go_simp;try with_reducible rfl)
    try simp only[Act.put,zzA,zzB,zzC,zzD,zzE,zzF]
    refine wpAnyH_take (i:=10) (v:=undef) rfl (by kernel_rfl) (by kernel_rfl) (by kernel_rfl) (fun _ _ _ h=>h) (Or.inr ⟨by rfl,rfl⟩) hHeld ?_
    try simp only[Act.put,zzA,zzB,zzC,zzD,zzE,zzF]
    refine wpAnyH_take (i:=11) (v:=undef) rfl (by kernel_rfl) (by kernel_rfl) (by kernel_rfl) (fun _ _ _ h=>h) (Or.inr ⟨by rfl,rfl⟩) hHeld ?_
    try simp only[Act.put,zzA,zzB,zzC,zzD,zzE,zzF]
    refine wpAnyH_take (i:=12) (v:=undef) rfl (by kernel_rfl) (by kernel_rfl) (by kernel_rfl) (fun _ _ _ h=>h) (Or.inr ⟨by rfl,rfl⟩) hHeld ?_
    try simp only[Act.put,zzA,zzB,zzC,zzD,zzE,zzF]
    refine wpAnyH_take (i:=13) (v:=?_) rfl (by kernel_rfl) (by kernel_rfl) (by kernel_rfl) (fun _ _ _ h=>h) (Or.inl ⟨by rfl,?_⟩) hHeld ?_
    rotate_left 1
    ·(intro w hSw;(try dsimp only at hSw);go_simp;try with_reducible rfl)
    try simp only[Act.put,zzA,zzB,zzC,zzD,zzE,zzF]
    refine wpAnyH_take (i:=14) (v:=?_) rfl (by kernel_rfl) (by kernel_rfl) (by kernel_rfl) (fun _ _ _ h=>h) (Or.inl ⟨by rfl,?_⟩) hHeld ?_
    rotate_left 1
    ·(intro w hSw;(try dsimp only at hSw);go_simp;try with_reducible rfl)
    try simp only[Act.put,zzA,zzB,zzC,zzD,zzE,zzF]
    refine wpAnyH_take (i:=15) (v:=undef) rfl (by kernel_rfl) (by kernel_rfl) (by kernel_rfl) (fun _ _ _ h=>h) (Or.inr ⟨by rfl,rfl⟩) hHeld ?_
    try simp only[Act.put,zzA,zzB,zzC,zzD,zzE,zzF]
    refine wpAnyH_take (i:=16) (v:=undef) rfl (by kernel_rfl) (by kernel_rfl) (by kernel_rfl) (fun _ _ _ h=>h) (Or.inr ⟨by rfl,rfl⟩) hHeld ?_
    try simp only[Act.put,zzA,zzB,zzC,zzD,zzE,zzF]
    refine wpAnyH_take (i:=17) (v:=undef) rfl (by kernel_rfl) (by kernel_rfl) (by kernel_rfl) (fun _ _ _ h=>h) (Or.inr ⟨by rfl,rfl⟩) hHeld ?_
    try simp only[Act.put,zzA,zzB,zzC,zzD,zzE,zzF]
    refine wpAnyH_take (i:=18) (v:=undef) rfl (by kernel_rfl) (by kernel_rfl) (by kernel_rfl) (fun _ _ _ h=>h) (Or.inr ⟨by rfl,rfl⟩) hHeld ?_
    try simp only[Act.put,zzA,zzB,zzC,zzD,zzE,zzF]
    refine wpAnyH_take (i:=19) (v:=undef) rfl (by kernel_rfl) (by kernel_rfl) (by kernel_rfl) (fun _ _ _ h=>h) (Or.inr ⟨by rfl,rfl⟩) hHeld ?_
    try simp only[Act.put,zzA,zzB,zzC,zzD,zzE,zzF]
    refine wpAnyH_take (i:=20) (v:=undef) rfl (by kernel_rfl) (by kernel_rfl) (by kernel_rfl) (fun _ _ _ h=>h) (Or.inr ⟨by rfl,rfl⟩) hHeld ?_
    try simp only[Act.put,zzA,zzB,zzC,zzD,zzE,zzF]
    refine wpAnyH_take (i:=21) (v:=?_) rfl (by kernel_rfl) (by kernel_rfl) (by kernel_rfl) (fun _ _ _ h=>h) (Or.inl ⟨by rfl,?_⟩) hHeld ?_
    rotate_left 1
    ·(intro w hSw;(try dsimp only at hSw);go_simp;try with_reducible rfl)
    try simp only[Act.put,zzA,zzB,zzC,zzD,zzE,zzF]
    refine wpAnyH_take (i:=22) (v:=?_) rfl (by kernel_rfl) (by kernel_rfl) (by kernel_rfl) (fun _ _ _ h=>h) (Or.inl ⟨by rfl,?_⟩) hHeld ?_
    rotate_left 1
    ·(intro w hSw;(try dsimp only at hSw);go_simp;try with_reducible rfl)
    try simp only[Act.put,zzA,zzB,zzC,zzD,zzE,zzF]
    refine wpAnyH_take (i:=23) (v:=undef) rfl (by kernel_rfl) (by kernel_rfl) (by kernel_rfl) (fun _ _ _ h=>h) (Or.inr ⟨by rfl,rfl⟩) hHeld ?_
    try simp only[Act.put,zzA,zzB,zzC,zzD,zzE,zzF]
    refine wpAnyH_take (i:=24) (v:=undef) rfl (by kernel_rfl) (by kernel_rfl) (by kernel_rfl) (fun _ _ _ h=>h) (Or.inr ⟨by rfl,rfl⟩) hHeld ?_
    try simp only[Act.put,zzA,zzB,zzC,zzD,zzE,zzF]
    refine wpAnyH_take (i:=25) (v:=undef) rfl (by kernel_rfl) (by kernel_rfl) (by kernel_rfl) (fun _ _ _ h=>h) (Or.inr ⟨by rfl,rfl⟩) hHeld ?_
    try simp only[Act.put,zzA,zzB,zzC,zzD,zzE,zzF]
    refine wpAnyH_take (i:=26) (v:=undef) rfl (by kernel_rfl) (by kernel_rfl) (by kernel_rfl) (fun _ _ _ h=>h) (Or.inr ⟨by rfl,rfl⟩) hHeld ?_
    try simp only[Act.put,zzA,zzB,zzC,zzD,zzE,zzF]
    refine wpAnyH_take (i:=27) (v:=?_) rfl (by kernel_rfl) (by kernel_rfl) (by kernel_rfl) (fun _ _ _ h=>h) (Or.inl ⟨by rfl,?_⟩) hHeld ?_
    rotate_left 1
    ·(intro w hSw;(try dsimp only at hSw);go_simp;try with_reducible rfl)
    try simp only[Act.put,zzA,zzB,zzC,zzD,zzE,zzF]
    refine wpAnyH_done (by kernel_rfl) ?_ _
    refine NoPanic.normal ?_
    go_wp2
    have hkb:(k:Int)+1≤9223372036854775807:=by
     have:=HLEN.out
     have hm:maxLen≤9223372036854775807:=of_decide_eq_true (by kernel_rfl)
     omega
    have hwr:wrap64 ((k:Int)+1)=(k:Int)+1:=by unfold wrap64;omega
    go_roundw
    case rel=>
     refine⟨k+1,by rw[hwr];rfl,by omega,?_,?_,?_,HC6.out.trans ((G.refl _).drew).chg,HS0.out.2.2.1,HTB6.out.G ((G.refl _).drew),HSZ6.out⟩
     ·rw[HO1.out];exact own_G HOW6.out ((G.refl _).drew)
     ·rw[HH1.out];exact HT6.out.G ((G.refl _).drew)
     ·rw[HH1.out];exact HE6.out.G ((G.refl _).drew)
    case measure=>rw[hwr];simp[RowKit.intOf];omega
  ·obtain rfl:k=beh.length:=by omega
   have hI:¬((beh.length:Int)<(beh.length:Int)):=by omega
   simp only[List.take_length] at hown hT hE
   go_wp2
   go_ret
   exact⟨_,rfl,hown,hT,hE,hC⟩
end
end Go.Proofs.YtadfaiciolfgjaaGreatDoor
