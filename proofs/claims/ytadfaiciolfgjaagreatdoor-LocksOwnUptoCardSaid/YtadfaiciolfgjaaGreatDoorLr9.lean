import Derived.Test.YtadfaiciolfgjaaGreatDoorLq5
namespace Go.Proofs.YtadfaiciolfgjaaGreatDoor
open Go.Proofs.Tryz
set_option maxHeartbeats 2000000
set_option maxRecDepth 100000
section
open Go.RowKit
theorem end_rnone{w:World}{b:Nat}{R:Rt}{D:Nat→Prop}(h:RT w b R D)(x:Int)(hn:∀e∈R.tx,(e.x==x)=false)(hl:R.tx.length<400000000000):Calls prog 9 #[ptr b,I x] w fun e w'=>e=.returned (.tuple #[.slice none 0 0,.slice none 0 0,I 80])∧G w w':=by
 obtain⟨vt,vh,va,tv,hR⟩:=h
 have KP:=hide (place_r hR x (by omega))
 rw[idxI_none hn] at KP
 clear hR hn hl
 go_enter func9,ntmps9
 go_wp2_with (first|(go_at_call 22;with_reducible refine(KP.out).mono ?_;rintro e w' ⟨rfl,rfl⟩)|fail)
 exact bodyPost_ret (v:=.tuple #[.slice none 0 0,.slice none 0 0,.int .i64 80]) (by simp[results,results9,go_sem]) rfl ⟨rfl,G.refl _⟩
theorem end_kg{R R1:Rt}{m:Ms}{L:List Int}{LR:List Rs}{x:Int}{b k:Nat}(hm:RM R m)(hI:Iv m L LR)(hl:R.hd.length+R.aq.length<300000000000)(h1:R1=endR R x k)(hel:R1.hd.length+R1.aq.length≤R.hd.length+R.aq.length):∀W D',RT W b R1 D'→Calls prog 36 #[ptr b] W (GrP W D' b R1.tx (resP R1.aq) (EJ L LR (R.hd.length+R.aq.length) (mDel m x,[]) (resP R1.aq))):=fun W D' hT=>by
 obtain⟨vt,vh,va,tv,hV⟩:=hT
 have hq:HQ R1.hd R1.aq (mDel m x).hl (mDel m x).qs:=by rw[h1];exact end_hq hm hI k
 exact grants_r hV (EJ L LR (R.hd.length+R.aq.length) (mDel m x,[]) (resP R1.aq)) (gj_end (by omega) (mDel m x,[]) (resP R1.aq) R1.tx) (ej_start (t0:=(mDel m x,[])) rfl hq (iw_del hI) hel) (by omega)
theorem end_kf{tx1:List Tx}{aq1:List Lk}{m m':Ms}{L:List Int}{LR:List Rs}{x:Int}{b N:Nat}{out:List Int}(hI2:Iv m' L LR)(hL:L.length<100000000000)(hsame:(resP aq1).foldl endF (mDel m x,[])=(m',out))(hTX:TXq tx1 m'.lv)(htl:tx1.length<300000000000)(hN:N<300000000000):∀hd7 aq7 got,EJ L LR N (mDel m x,[]) (resP aq1) (resP aq1).length 0 hd7 aq7 got→got=out∧∀W D',RT W b ⟨tx1,hd7,aq7⟩ D'→Calls prog 30 #[ptr b] W (WdP W D' b ⟨tx1,hd7,aq7⟩ (SJ m' m' tx1)):=fun hd7 aq7 got hj=>by
 obtain⟨f1,f2,f3⟩:=ej_fin hj
 rw[hsame] at f1 f2
 refine⟨f2,fun W D' hT=>?_⟩
 obtain⟨vt,vh,va,tv,hV⟩:=hT
 exact wounds_r hV (SJ m' m' tx1) (wj (R:=⟨tx1,hd7,aq7⟩) hTX f1 (swp_same hI2) hI2 hI2 hL) (SJ.start (swp_same hI2) hTX) (show tx1.length<400000000000∧hd7.length<400000000000∧aq7.length<400000000000 by omega)
theorem end_fi{tx1:List Tx}{aq1:List Lk}{m m':Ms}{L:List Int}{LR:List Rs}{x:Int}{N t:Nat}{out:List Int}(hI2:Iv m' L LR)(hsame:(resP aq1).foldl endF (mDel m x,[])=(m',out))(hTX:TXq tx1 m'.lv)(htl:tx1.length≤t):∀hd7 aq7 got,EJ L LR N (mDel m x,[]) (resP aq1) (resP aq1).length 0 hd7 aq7 got→∀TX OUT last,SJ m' m' tx1 last TX OUT→(∀a∈TX,¬last<a.st)→OUT=[]∧RM ⟨TX,hd7,aq7⟩ m'∧TX.length≤t∧hd7.length+aq7.length≤N:=fun hd7 aq7 got hj TX OUT last hj8 hmax=>by
 obtain⟨f1,-,f3⟩:=ej_fin hj
 rw[hsame] at f1
 obtain⟨g1,-,g3⟩:=wj_fin (R:=⟨tx1,hd7,aq7⟩) hTX f1 (swp_same hI2) (fun z c hz=>⟨c,hz⟩) hj8 hmax
 refine⟨?_,g1,?_,f3⟩
 ·cases OUT with
  | nil=>rfl
  | cons y l=>
   obtain⟨c,c',k1,k2,k3,k4⟩:=(g3 y).1 (List.mem_cons_self)
   rw[k1] at k2
   cases k2
   rw[k3] at k4;cases k4
 ·have h9:=congrArg List.length hj8.ids
  rw[List.length_map,List.length_map] at h9
  omega
theorem endR_len{R:Rt}{x:Int}{k:Nat}:(endR R x k).hd.length+(endR R x k).aq.length≤R.hd.length+R.aq.length∧(endR R x k).tx.length≤R.tx.length:=by
 have h9:(endR R x k).hd.length≤R.hd.length:=List.length_filter_le _ _
 have h10:(endR R x k).aq.length≤R.aq.length:=by
  show(match R.aq.findIdx? (fun e:Lk=>e.x==x)with|some n=>cutP n R.aq|none=>R.aq).length≤_
  cases R.aq.findIdx? (fun e:Lk=>e.x==x)with
  | none=>exact Nat.le_refl _
  | some n=>
   show(cutP n R.aq).length≤_
   unfold cutP
   rw[List.length_append,List.length_take,List.length_drop];omega
 refine⟨by omega,?_⟩
 show(R.tx.take k++R.tx.drop (k+1)).length≤_
 rw[List.length_append,List.length_take,List.length_drop];omega
theorem endR_no{R R1:Rt}{x:Int}{k:Nat}(hq2:∀a∈R.aq,(a.x==x)=false)(h:R1=endR R x k):R1=⟨R.tx.take k++R.tx.drop (k+1),R.hd.filter (fun e=>e.x != x),R.aq⟩:=by
 have:R.aq.findIdx? (fun e=>e.x==x)=none:=List.findIdx?_eq_none_iff.2 hq2
 rw[h]
 unfold endR
 rw[this]
theorem endR_yes{R R1:Rt}{x:Int}{k n:Nat}{q:Lk}(hq2:R.aq[n]?=some q)(hq3:(q.x==x)=true)(hq4:∀j b,j<n→R.aq[j]?=some b→(b.x==x)=false)(h:R1=endR R x k):R1=⟨R.tx.take k++R.tx.drop (k+1),R.hd.filter (fun e=>e.x != x),cutP n R.aq⟩:=by
 have:R.aq.findIdx? (fun e=>e.x==x)=some n:=by
  rw[List.findIdx?_eq_some_iff_getElem]
  obtain⟨k1,k2⟩:=List.getElem?_eq_some_iff.1 hq2
  refine⟨k1,by rw[k2];exact hq3,fun j hj=>?_⟩
  rw[hq4 j _ hj (List.getElem?_eq_getElem (by omega))]
  simp
 rw[h]
 unfold endR
 rw[this]
theorem end_txq{R:Rt}{m m':Ms}{x:Int}{k:Nat}{out:List Int}{te:Tx}(hm:RM R m)(hte:R.tx[k]?=some te)(htex:te.x=x)(hlv:∀z,m'.lv z=if z∈out then((mDel m x).lv z).map Pm.got else(mDel m x).lv z):TXq (endR R x k).tx m'.lv:=by
 refine(end_tx hm hte htex).same (fun z q hz=>?_) (fun z q hz=>?_)
 ·rw[hlv z,hz]
  by_cases h9:z∈out
  ·rw[if_pos h9];exact⟨_,rfl,rfl,rfl⟩
  ·rw[if_neg h9];exact⟨_,rfl,rfl,rfl⟩
 ·rw[hlv z] at hz
  cases h9:(mDel m x).lv z with
  | none=>
   rw[h9] at hz
   by_cases h10:z∈out
   ·rw[if_pos h10] at hz;cases hz
   ·rw[if_neg h10] at hz;cases hz
  | some c=>exact⟨c,rfl⟩
def EnP(w:World)(D:Nat→Prop)(b:Nat)(out:List Int)(m':Ms)(t a:Nat)(e:Ending)(w':World):Prop:=∃u v,e=.returned (.tuple #[u,v,I 0])∧w'.ownsRow w.heap.size 3 1 u out.length (out.map fun z=>I z)∧w'.ownsRow w.heap.size 3 1 v ([]:List Int).length (([]:List Int).map fun z=>I z)∧RX w w' b D m' t a
theorem end_r1{w:World}{b:Nat}{R:Rt}{D:Nat→Prop}{vh va:Value}{tv:List (Tx×Value)}{ga cap:Nat}(h:RV w b R D (.slice (some ⟨ga,0,none⟩) tv.length cap) vh va tv)(x:Int)(k:Nat)(hk:k<tv.length)(hcap:tv.length≤cap)(hi:idxI (fun e:Tx=>e.x==x) R.tx=(k:Int)){m m':Ms}{L:List Int}{LR:List Rs}{p:Pm}{out:List Int}(hm:RM R m)(hI:Iv m L LR)(hp:m.lv x=some p)(hE:EndK m x p out m')(hI2:Iv m' L LR)(hL:L.length<100000000000)(hl:R.tx.length<300000000000∧R.hd.length+R.aq.length<300000000000):Calls prog 9 #[ptr b,I x] w (EnP w D b out m' R.tx.length (R.hd.length+R.aq.length)):=by
 have HLL:=hide hl
 have hl3:tv.length<300000000000:=by have:=h.tl;omega
 obtain⟨te,hte⟩:∃te,R.tx[k]?=some te:=⟨_,List.getElem?_eq_getElem (by have:=h.tl;omega)⟩
 have htex:te.x=x:=by
  rcases idxI_cases (fun e:Tx=>e.x==x) R.tx with ⟨h9,-⟩|⟨i9,a9,h9,h10,h11,-⟩
  ·rw[hi] at h9;omega
  ·have:i9=k:=by rw[hi] at h9;omega
   subst this
   rw[hte] at h10
   cases h10
   simpa using h11
 obtain⟨rs,-,hrm,hrs,hend,-,-,hlv,-⟩:=hE
 obtain⟨R1,hR1⟩:∃R1,R1=endR R x k:=⟨_,rfl⟩
 have hsame:(resP R1.aq).foldl endF (mDel m x,[])=(m',out):=by
  rw[hR1,←hend]
  exact end_same hm hI hp hrm hrs k
 have hTX:TXq R1.tx m'.lv:=by
  rw[hR1]
  exact end_txq hm hte htex hlv
 have hel:R1.hd.length+R1.aq.length≤R.hd.length+R.aq.length:=by
  rw[hR1]
  exact endR_len.1
 have hetl:R1.tx.length≤R.tx.length:=by
  rw[hR1]
  exact endR_len.2
 have HKG:Hid (∀W D',RT W b R1 D'→Calls prog 36 #[ptr b] W (GrP W D' b R1.tx (resP R1.aq) (EJ L LR (R.hd.length+R.aq.length) (mDel m x,[]) (resP R1.aq)))):=end_kg hm hI hl.2 hR1 hel
 have HKF:Hid (∀hd7 aq7 got,EJ L LR (R.hd.length+R.aq.length) (mDel m x,[]) (resP R1.aq) (resP R1.aq).length 0 hd7 aq7 got→got=out∧∀W D',RT W b ⟨R1.tx,hd7,aq7⟩ D'→Calls prog 30 #[ptr b] W (WdP W D' b ⟨R1.tx,hd7,aq7⟩ (SJ m' m' R1.tx))):=end_kf hI2 hL hsame hTX (Nat.lt_of_le_of_lt hetl hl.1) hl.2
 have HFI:Hid (∀hd7 aq7 got,EJ L LR (R.hd.length+R.aq.length) (mDel m x,[]) (resP R1.aq) (resP R1.aq).length 0 hd7 aq7 got→∀TX OUT last,SJ m' m' R1.tx last TX OUT→(∀a∈TX,¬last<a.st)→OUT=[]∧RM ⟨TX,hd7,aq7⟩ m'∧TX.length≤R.tx.length∧hd7.length+aq7.length≤R.hd.length+R.aq.length):=end_fi hI2 hsame hTX hetl
 have HR1:=hide hR1
 clear hR1 hsame hTX hel hetl hrm hrs hend hlv hte htex
 have KP:=hide (place_r h x (by omega))
 rw[hi] at KP
 have hcells:∀W,G w W→∀j u,(txc tv)[j]?=some u→W.cell? ⟨ga,j,none⟩=some u:=fun W hW j u hj=>by
  have h2:=(h.G hW).rt
  have hjl:=(List.getElem?_eq_some_iff.1 hj).1
  rw[show(txc tv).length=tv.length*3 from flat_len txC 3 tx_len tv] at hjl
  rw[h2.cellAt j hjl];exact hj
 have hones:∀u∈txc tv,u.oneCell'=true:=fun u hu=>by
  obtain⟨a,ha,hu⟩:=List.mem_flatMap.1 hu
  obtain⟨wa,wc,hw⟩:=row_form (h.rw_ a ha)
  simp[txC,hw] at hu
  rcases hu with rfl|rfl|rfl<;>rfl
 have hk0:¬(k:Int)<0:=by omega
 have hk00:(0:Int)≤(k:Int):=by omega
 have hkc:(k:Int)≤(cap:Int):=by omega
 have hkl:(k:Int)≤(tv.length:Int):=by omega
 have hwk:wrap64 ((k:Int)+1)=(k:Int)+1:=by unfold wrap64;omega
 have hk1:(k:Int)+1≤(tv.length:Int):=by omega
 have hk2:(k:Int)+1≤(cap:Int):=by omega
 have hlc:(tv.length:Int)≤(cap:Int):=by omega
 clear hi hm hI hp hI2 hL hl
 by_cases hcn:cap=k+1
 ·subst hcn
  obtain⟨v1,w1,r1,r2,r3,r4⟩:=app_tx w w.heap.size (.slice none 0 0) [] (tv.take k) ⟨rfl,.inl ⟨rfl,rfl⟩⟩ ⟨ga,0,none⟩ k (k+1) (by rw[List.length_take];omega) (fun j u hj=>by
   rw[Addr.add_mid,Nat.zero_add]
   refine hcells w (G.refl w) j u ?_
   have e:=txc_app (tv.take k) (tv.drop k)
   rw[List.take_append_drop] at e
   rw[e,List.getElem?_append_left (List.getElem?_eq_some_iff.1 hj).1];exact hj) (fun u hu=>hones u (by
   obtain⟨a,ha,hu⟩:=List.mem_flatMap.1 hu
   exact List.mem_flatMap.2 ⟨a,List.mem_of_mem_take ha,hu⟩)) (by rw[List.length_take,List.length_nil];omega) (Nat.le_refl _)
  have g1:G w w1:=grown_G (G.refl w) r3 (fun k hk=>by cases hk)
  rw[List.nil_append] at r2
  obtain⟨v2,w2,s1,s2,s3,s4⟩:=app_tx w1 w.heap.size v1 (tv.take k) (tv.drop (k+1)) r2 ⟨ga,0,none⟩ 0 0 (by rw[List.length_drop];try omega) (fun j u hj=>by
   rw[List.drop_of_length_le (by omega)] at hj;cases hj) (fun u hu=>hones u (by
   obtain⟨a,ha,hu⟩:=List.mem_flatMap.1 hu
   exact List.mem_flatMap.2 ⟨a,List.mem_of_mem_drop ha,hu⟩)) (by rw[List.length_take,List.length_drop];omega) g1.size
  have g2:G w w2:=grown_G g1 s3 (fun k hk=>(World.ownsRow.lt r2 k hk).1)
  obtain⟨p1,p2,p3⟩:=h.putT g2.chg (own_lo s2 (Nat.zero_le _)) (fun k hk=>.inr (World.ownsRow.lt s2 k hk).1) (fun e he=>by
   rcases List.mem_append.1 he with he|he
   ·exact .inl (List.mem_of_mem_take he)
   ·exact .inl (List.mem_of_mem_drop he))
  have hmp:(tv.take k++tv.drop (k+1)).map Prod.fst=R.tx.take k++R.tx.drop (k+1):=by rw[List.map_append,List.map_take,List.map_drop,h.tm]
  rw[hmp] at p1
  obtain⟨x1,y1,hv1⟩:=row_form r2
  obtain⟨n1,hn1⟩:∃n1,n1=(tv.take k).length:=⟨_,rfl⟩
  rw[←hn1] at hv1
  subst hv1
  obtain⟨x2,y2,hv2⟩:=row_form s2
  obtain⟨n2,hn2⟩:∃n2,n2=(tv.take k++tv.drop (k+1)).length:=⟨_,rfl⟩
  rw[←hn2] at hv2
  subst hv2
  have hbc:=h.blk.cell
  have hb1:=(h.blk.G g1).cell
  have hb2:=(h.blk.G g2).cell
  have hz2:=(h.blk.G g2).frozen
  have HA:=hide r1;have HB:=hide s1
  have HP1:=hide p1;have HP2:=hide (And.intro p2 p3)
  clear r1 r2 r3 r4 s1 s2 s3 s4 hcells hones h hn1 hn2 p1 p2 p3 g1 g2 hmp
  go_enter func9,ntmps9
  go_wp2_with (first|(go_at_call 22;with_reducible refine(KP.out).mono ?_;rintro e w' ⟨rfl,e9⟩;subst w')|(at_builtin;refine wpList_append_run rfl _ _ 86 rfl _ _ rfl rfl HA.out ?_;refine Hid.out ?_)|fail)
  unfold Hid
  go_wp2_with (first|(at_builtin;refine wpList_append_run rfl _ _ 86 rfl _ _ rfl rfl HB.out ?_)|fail)
  obtain⟨w3,hw3⟩:∃w3,w3=w2.setCell ⟨b,0,none⟩ (.slice x2 n2 y2):=⟨_,rfl⟩
  rw[←hw3] at HP1 HP2⊢
  obtain⟨D3,hD3⟩:∃D3:Nat→Prop,D3=fun k=>D k∨(Value.slice x2 n2 y2).ownBlock=some k:=⟨_,rfl⟩
  replace HP1:Hid (RV w3 b ⟨R.tx.take k++R.tx.drop (k+1),R.hd,R.aq⟩ D3 (.slice x2 n2 y2) vh va (tv.take k++tv.drop (k+1))):=by rw[hD3];exact HP1.out
  replace HP2:Hid (Chg D w w3∧∀k,D3 k→D k∨w.heap.size≤k):=by rw[hD3];exact HP2.out
  clear hw3 hD3 hb1 hb2 hz2 hbc HA HB KP
  obtain⟨ra,rcap,rfl⟩:=row_form HP1.out.rh
  go_loopw [9,10] (fun ov iv wr=>∃n:Nat,n≤R.hd.length∧iv=I (n:Int)∧wr.ownsRow w3.heap.size 73 6 ov ((R.hd.take n).filter fun e=>e.x != x).length (lkc ((R.hd.take n).filter fun e=>e.x != x))∧G w3 wr) (fun _ iv _=>R.hd.length-(RowKit.intOf iv).toNat)
  case atStart=>exact⟨0,Nat.zero_le _,rfl,⟨rfl,.inl ⟨rfl,rfl⟩⟩,G.refl _⟩
  case round=>
   obtain⟨n,hn,rfl,how,hgw⟩:=hrel
   have hll:=HLL.out
   have hR:=HP1.out.G hgw
   have hbc:=hR.blk.cell
   by_cases hlt:n<R.hd.length
   ·obtain⟨⟨ex,r,ec,eu⟩,he⟩:∃a,R.hd[n]?=some a:=⟨_,List.getElem?_eq_getElem hlt⟩
    obtain⟨gh,hgh,kc⟩:=row_cell lk_len hR.rh he
    subst hgh
    have k0:wr.cell? ⟨gh,n*6,none⟩=some (I ex):=kc 0 (by omega)
    have k1:wr.cell? ⟨gh,n*6+1,none⟩=some (I r.lv):=kc 1 (by omega)
    have k2:wr.cell? ⟨gh,n*6+2,none⟩=some (.string r.lb):=kc 2 (by omega)
    have k3:wr.cell? ⟨gh,n*6+3,none⟩=some (I r.id):=kc 3 (by omega)
    have k4:wr.cell? ⟨gh,n*6+4,none⟩=some (I ec):=kc 4 (by omega)
    have k5:wr.cell? ⟨gh,n*6+5,none⟩=some (.bool eu):=kc 5 (by omega)
    have hnI:(n:Int)<(R.hd.length:Int):=by omega
    have hwn:wrap64 ((n:Int)+1)=(n:Int)+1:=by unfold wrap64;omega
    have HWN:=hide hwn;have HLT:=hide hlt;have HGW:=hide hgw;have HOW:=hide how
    have hfl:(R.hd.take (n+1)).filter (fun e=>e.x != x)=(R.hd.take n).filter (fun e=>e.x != x)++(if ex=x then [] else [⟨ex,r,ec,eu⟩]):=by
     rw[take_lk he,List.filter_append]
     congr 1
     by_cases h9:ex=x
     ·rw[if_pos h9,List.filter_cons_of_neg (by simp[h9])];rfl
     ·rw[if_neg h9,List.filter_cons_of_pos (by simp[h9])];rfl
    have hflen:((R.hd.take n).filter (fun e=>e.x != x)).length≤R.hd.length:=Nat.le_trans (List.length_filter_le _ _) (by rw[List.length_take];omega)
    by_cases e1:ex=x
    ·rw[if_pos e1,List.append_nil] at hfl
     have HF:=hide hfl
     rw[e1] at k0
     have d1:(x != x)=false:=by simp
     clear hn hlt he hwn kc hll hgw hR how hfl hflen e1
     go_wp2_with fail
     exact⟨⟨n+1,HLT.out,by rw[HWN.out];exact rl1 n,by rw[HF.out];exact HOW.out,HGW.out⟩,by rw[HWN.out];exact ms_end HLT.out⟩
    ·rw[if_neg e1] at hfl
     have HF:=hide hfl
     have d1:(ex != x)=true:=by simp[e1]
     have d2:(ex==x)=false:=by simp[e1]
     have d3:decide (ex=x)=false:=by simp[e1]
     obtain⟨v9,w9,r1,r2,r3,-⟩:=app_lk (wr.alloc (.cells #[I ex,I r.lv,.string r.lb,I r.id,I ec,.bool eu] 73)) w3.heap.size _ _ [⟨ex,r,ec,eu⟩] (own_G how ((G.refl wr).alloc _)) ⟨wr.heap.size,0,none⟩ 1 1 rfl (fun j u hj=>by
      have:=(Blk.new wr [I ex,I r.lv,.string r.lb,I r.id,I ec,.bool eu] 73).cell j
      rw[Addr.add_mid,Nat.zero_add,this]
      exact hj) (by rw[List.length_singleton];omega) ((hgw.alloc _).size)
     have HG9:Hid (G w3 w9):=grown_G (hgw.alloc _) r3 (fun k hk=>(World.ownsRow.lt how k hk).1)
     have HA9:=hide r1;have HR9:=hide r2
     clear hn hlt he hwn kc hll hgw hR how hfl hflen e1 r1 r2 r3
     go_wp2_with (first|(at_builtin;refine wpList_append_run rfl _ _ 87 rfl _ _ rfl rfl HA9.out ?_)|fail)
     exact⟨⟨n+1,HLT.out,by rw[HWN.out];exact rl1 n,by rw[HF.out];exact HR9.out,HG9.out⟩,by rw[HWN.out];exact ms_end HLT.out⟩
   ·have hne:n=R.hd.length:=by omega
    subst hne
    have hnI:¬((R.hd.length:Int)<(R.hd.length:Int)):=by omega
    rw[List.take_length] at how
    obtain⟨p1,p2,p3⟩:=HP1.out.putH hgw.chg (own_lo how (Nat.zero_le _)) (fun k hk=>.inr (World.ownsRow.lt how k hk).1)
    obtain⟨oa,oc,hov⟩:=row_form how
    obtain⟨on,hon⟩:∃on,on=(R.hd.filter fun e=>e.x != x).length:=⟨_,rfl⟩
    rw[←hon] at hov
    subst hov
    have hz:=hR.blk.frozen
    obtain⟨c5,n5⟩:=chg_next HP2.out.1 HP2.out.2 p2 p3
    obtain⟨D5,hD5⟩:∃D5:Nat→Prop,D5=fun k=>D3 k∨(Value.slice oa on oc).ownBlock=some k:=⟨_,rfl⟩
    rw[←hD5] at p1
    replace n5:∀k,D5 k→D k∨w.heap.size≤k:=by rw[hD5];exact n5
    have HR5:=hide p1;have HC5:=hide c5;have HN5:=hide n5
    have KQ:=hide (request_r p1 x (show R.aq.length<2000000000000 by omega))
    have hfl:(R.hd.filter fun e=>e.x != x).length≤R.hd.length:=List.length_filter_le _ _
    have HFL:=hide hfl
    clear hn hlt hll hgw hR how p1 p2 p3 hon hD5 c5 n5 HP1 HP2 hfl
    rcases idxI_cases (fun e:Lk=>e.x==x) R.aq with ⟨hq1,hq2⟩|⟨n,q,hq1,hq2,hq3,hq4⟩
    ·replace KQ:Hid (Calls prog 25 #[ptr b,I x] (wr.setCell ⟨b,1,none⟩ (.slice oa on oc)) fun e w'=>e=.returned (I (-1))∧w'=wr.setCell ⟨b,1,none⟩ (.slice oa on oc)):=by have h9:=KQ.out;rw[show idxI (fun e:Lk=>e.x==x) (⟨R.tx.take k++R.tx.drop (k+1),R.hd.filter (fun e=>e.x != x),R.aq⟩:Rt).aq = -1 from hq1] at h9;exact h9
     have HEA:=hide (endR_no hq2 HR1.out)
     have KG:=HKG.out _ D5 (by rw[HEA.out];exact⟨_,_,_,_,HR5.out⟩)
     have HKG2:=hide KG
     clear hq1 hq2 KG
     go_wp2_with (first|(go_at_call 25;with_reducible refine(KQ.out).mono ?_;rintro e w' ⟨rfl,rfl⟩)|(go_at_call 36;(with_reducible refine(HKG2.out).mono ?_);rintro e w7 ⟨v7,hd7,aq7,got,D7,rfl,hj7,o7,rt7,c7,n7,nd7⟩;refine Hid.out ?_)|fail)
     unfold Hid
     obtain⟨c77,n77⟩:=chg_next HC5.out HN5.out c7 n7
     obtain⟨e1,e2⟩:=HKF.out hd7 aq7 got hj7
     have HKW:=hide (e2 w7 D7 rt7)
     have HC7:=hide c77;have HN7:=hide n77
     have HO7:=hide (own_chg (own_lo o7 HC5.out.size) (Chg.refl D7 w7) nd7);have HND7:=hide nd7
     have HE1:=hide e1
     clear c7 n7 c77 n77 o7 nd7 e2 e1 HKG2
     go_wp2_with (first|(go_at_call 30;(with_reducible refine(HKW.out).mono ?_);rintro e w8 ⟨v8,OUT,TX,last,D8,rfl,hj8,hmax,o8,rt8,c8,n8,nd8⟩)|fail)
     obtain⟨c88,n88⟩:=chg_next HC7.out HN7.out c8 n8
     have hfin:=HFI.out hd7 aq7 got hj7 TX OUT last hj8 (fun a ha=>by have:=hmax a ha;omega)
     exact bodyPost_ret (v:=.tuple #[v7,v8,.int .i64 0]) (by simp[results,results9,go_sem]) rfl ⟨v7,v8,rfl,by rw[←HE1.out];exact own_chg HO7.out c8 HND7.out,by have h9:=o8;rw[hfin.1] at h9;exact own_lo h9 HC7.out.size,⟨_,D8,rt8,hfin.2.1,c88,n88,hfin.2.2.1,hfin.2.2.2⟩⟩
    ·replace KQ:Hid (Calls prog 25 #[ptr b,I x] (wr.setCell ⟨b,1,none⟩ (.slice oa on oc)) fun e w'=>e=.returned (I (n:Int))∧w'=wr.setCell ⟨b,1,none⟩ (.slice oa on oc)):=by have h9:=KQ.out;rw[show idxI (fun e:Lk=>e.x==x) (⟨R.tx.take k++R.tx.drop (k+1),R.hd.filter (fun e=>e.x != x),R.aq⟩:Rt).aq=(n:Int)from hq1] at h9;exact h9
     have hn0:(0:Int)≤(n:Int):=by omega
     have hnl:=(List.getElem?_eq_some_iff.1 hq2).1
     have HEA:=hide (endR_yes hq2 hq3 hq4 HR1.out)
     have KL:=hide (leave_r HR5.out n (show n<R.aq.length from hnl) (show R.aq.length<400000000000 by have:=HLL.out;omega))
     clear hq1 hq2 hq3 hq4 hnl
     go_wp2_with (first|(go_at_call 25;with_reducible refine(KQ.out).mono ?_;rintro e w' ⟨rfl,rfl⟩)|(go_at_call 31;with_reducible refine(KL.out).mono ?_;rintro e w6 ⟨rfl,h6⟩;refine Hid.out ?_)|fail)
     unfold Hid
     obtain⟨D6,rt6,c6,n6⟩:=h6
     rw[←HEA.out] at rt6
     obtain⟨c66,n66⟩:=chg_next HC5.out HN5.out c6 n6
     have HKG2:=hide (HKG.out _ D6 rt6)
     have HC5:=hide c66
     have HN5:=hide n66
     clear c6 n6 rt6 KL KQ c66 n66
     go_wp2_with (first|(go_at_call 36;(with_reducible refine(HKG2.out).mono ?_);rintro e w7 ⟨v7,hd7,aq7,got,D7,rfl,hj7,o7,rt7,c7,n7,nd7⟩;refine Hid.out ?_)|fail)
     unfold Hid
     obtain⟨c77,n77⟩:=chg_next HC5.out HN5.out c7 n7
     obtain⟨e1,e2⟩:=HKF.out hd7 aq7 got hj7
     have HKW:=hide (e2 w7 D7 rt7)
     have HC7:=hide c77;have HN7:=hide n77
     have HO7:=hide (own_chg (own_lo o7 HC5.out.size) (Chg.refl D7 w7) nd7);have HND7:=hide nd7
     have HE1:=hide e1
     clear c7 n7 c77 n77 o7 nd7 e2 e1 HKG2
     go_wp2_with (first|(go_at_call 30;(with_reducible refine(HKW.out).mono ?_);rintro e w8 ⟨v8,OUT,TX,last,D8,rfl,hj8,hmax,o8,rt8,c8,n8,nd8⟩)|fail)
     obtain⟨c88,n88⟩:=chg_next HC7.out HN7.out c8 n8
     have hfin:=HFI.out hd7 aq7 got hj7 TX OUT last hj8 (fun a ha=>by have:=hmax a ha;omega)
     exact bodyPost_ret (v:=.tuple #[v7,v8,.int .i64 0]) (by simp[results,results9,go_sem]) rfl ⟨v7,v8,rfl,by rw[←HE1.out];exact own_chg HO7.out c8 HND7.out,by have h9:=o8;rw[hfin.1] at h9;exact own_lo h9 HC7.out.size,⟨_,D8,rt8,hfin.2.1,c88,n88,hfin.2.2.1,hfin.2.2.2⟩⟩
 ·obtain⟨v1,w1,r1,r2,r3,r4⟩:=app_tx w w.heap.size (.slice none 0 0) [] (tv.take k) ⟨rfl,.inl ⟨rfl,rfl⟩⟩ ⟨ga,0,none⟩ k cap (by rw[List.length_take];omega) (fun j u hj=>by
   rw[Addr.add_mid,Nat.zero_add]
   refine hcells w (G.refl w) j u ?_
   have e:=txc_app (tv.take k) (tv.drop k)
   rw[List.take_append_drop] at e
   rw[e,List.getElem?_append_left (List.getElem?_eq_some_iff.1 hj).1];exact hj) (fun u hu=>hones u (by
   obtain⟨a,ha,hu⟩:=List.mem_flatMap.1 hu
   exact List.mem_flatMap.2 ⟨a,List.mem_of_mem_take ha,hu⟩)) (by rw[List.length_take,List.length_nil];omega) (Nat.le_refl _)
  have g1:G w w1:=grown_G (G.refl w) r3 (fun k hk=>by cases hk)
  rw[List.nil_append] at r2
  obtain⟨v2,w2,s1,s2,s3,s4⟩:=app_tx w1 w.heap.size v1 (tv.take k) (tv.drop (k+1)) r2 ⟨ga,(k+1)*3,none⟩ (tv.length-(k+1)) (cap-(k+1)) (by rw[List.length_drop];try omega) (fun j u hj=>by
   rw[Addr.add_mid]
   refine hcells w1 g1 _ u ?_
   have e:=txc_app (tv.take (k+1)) (tv.drop (k+1))
   rw[List.take_append_drop] at e
   have hlt:(txc (tv.take (k+1))).length=(k+1)*3:=by
    rw[show(txc (tv.take (k+1))).length=(tv.take (k+1)).length*3 from flat_len txC 3 tx_len _,List.length_take,Nat.min_eq_left (by omega)]
   rw[e,List.getElem?_append_right (by omega),hlt,Nat.add_sub_cancel_left];exact hj) (fun u hu=>hones u (by
   obtain⟨a,ha,hu⟩:=List.mem_flatMap.1 hu
   exact List.mem_flatMap.2 ⟨a,List.mem_of_mem_drop ha,hu⟩)) (by rw[List.length_take,List.length_drop];omega) g1.size
  have g2:G w w2:=grown_G g1 s3 (fun k hk=>(World.ownsRow.lt r2 k hk).1)
  obtain⟨p1,p2,p3⟩:=h.putT g2.chg (own_lo s2 (Nat.zero_le _)) (fun k hk=>.inr (World.ownsRow.lt s2 k hk).1) (fun e he=>by
   rcases List.mem_append.1 he with he|he
   ·exact .inl (List.mem_of_mem_take he)
   ·exact .inl (List.mem_of_mem_drop he))
  have hmp:(tv.take k++tv.drop (k+1)).map Prod.fst=R.tx.take k++R.tx.drop (k+1):=by rw[List.map_append,List.map_take,List.map_drop,h.tm]
  rw[hmp] at p1
  obtain⟨x1,y1,hv1⟩:=row_form r2
  obtain⟨n1,hn1⟩:∃n1,n1=(tv.take k).length:=⟨_,rfl⟩
  rw[←hn1] at hv1
  subst hv1
  obtain⟨x2,y2,hv2⟩:=row_form s2
  obtain⟨n2,hn2⟩:∃n2,n2=(tv.take k++tv.drop (k+1)).length:=⟨_,rfl⟩
  rw[←hn2] at hv2
  subst hv2
  have hbc:=h.blk.cell
  have hb1:=(h.blk.G g1).cell
  have hb2:=(h.blk.G g2).cell
  have hz2:=(h.blk.G g2).frozen
  have HA:=hide r1;have HB:=hide s1
  have HP1:=hide p1;have HP2:=hide (And.intro p2 p3)
  clear r1 r2 r3 r4 s1 s2 s3 s4 hcells hones h hn1 hn2 p1 p2 p3 g1 g2 hmp
  go_enter func9,ntmps9
  go_wp2_with (first|(go_at_call 22;with_reducible refine(KP.out).mono ?_;rintro e w' ⟨rfl,e9⟩;subst w')|(at_builtin;refine wpList_append_run rfl _ _ 86 rfl _ _ rfl rfl HA.out ?_;refine Hid.out ?_)|fail)
  unfold Hid
  go_wp2_with (first|(at_builtin;refine wpList_append_run rfl _ _ 86 rfl _ _ rfl rfl HB.out ?_)|fail)
  obtain⟨w3,hw3⟩:∃w3,w3=w2.setCell ⟨b,0,none⟩ (.slice x2 n2 y2):=⟨_,rfl⟩
  rw[←hw3] at HP1 HP2⊢
  obtain⟨D3,hD3⟩:∃D3:Nat→Prop,D3=fun k=>D k∨(Value.slice x2 n2 y2).ownBlock=some k:=⟨_,rfl⟩
  replace HP1:Hid (RV w3 b ⟨R.tx.take k++R.tx.drop (k+1),R.hd,R.aq⟩ D3 (.slice x2 n2 y2) vh va (tv.take k++tv.drop (k+1))):=by rw[hD3];exact HP1.out
  replace HP2:Hid (Chg D w w3∧∀k,D3 k→D k∨w.heap.size≤k):=by rw[hD3];exact HP2.out
  clear hw3 hD3 hb1 hb2 hz2 hbc HA HB KP
  obtain⟨ra,rcap,rfl⟩:=row_form HP1.out.rh
  go_loopw [9,10] (fun ov iv wr=>∃n:Nat,n≤R.hd.length∧iv=I (n:Int)∧wr.ownsRow w3.heap.size 73 6 ov ((R.hd.take n).filter fun e=>e.x != x).length (lkc ((R.hd.take n).filter fun e=>e.x != x))∧G w3 wr) (fun _ iv _=>R.hd.length-(RowKit.intOf iv).toNat)
  case atStart=>exact⟨0,Nat.zero_le _,rfl,⟨rfl,.inl ⟨rfl,rfl⟩⟩,G.refl _⟩
  case round=>
   obtain⟨n,hn,rfl,how,hgw⟩:=hrel
   have hll:=HLL.out
   have hR:=HP1.out.G hgw
   have hbc:=hR.blk.cell
   by_cases hlt:n<R.hd.length
   ·obtain⟨⟨ex,r,ec,eu⟩,he⟩:∃a,R.hd[n]?=some a:=⟨_,List.getElem?_eq_getElem hlt⟩
    obtain⟨gh,hgh,kc⟩:=row_cell lk_len hR.rh he
    subst hgh
    have k0:wr.cell? ⟨gh,n*6,none⟩=some (I ex):=kc 0 (by omega)
    have k1:wr.cell? ⟨gh,n*6+1,none⟩=some (I r.lv):=kc 1 (by omega)
    have k2:wr.cell? ⟨gh,n*6+2,none⟩=some (.string r.lb):=kc 2 (by omega)
    have k3:wr.cell? ⟨gh,n*6+3,none⟩=some (I r.id):=kc 3 (by omega)
    have k4:wr.cell? ⟨gh,n*6+4,none⟩=some (I ec):=kc 4 (by omega)
    have k5:wr.cell? ⟨gh,n*6+5,none⟩=some (.bool eu):=kc 5 (by omega)
    have hnI:(n:Int)<(R.hd.length:Int):=by omega
    have hwn:wrap64 ((n:Int)+1)=(n:Int)+1:=by unfold wrap64;omega
    have HWN:=hide hwn;have HLT:=hide hlt;have HGW:=hide hgw;have HOW:=hide how
    have hfl:(R.hd.take (n+1)).filter (fun e=>e.x != x)=(R.hd.take n).filter (fun e=>e.x != x)++(if ex=x then [] else [⟨ex,r,ec,eu⟩]):=by
     rw[take_lk he,List.filter_append]
     congr 1
     by_cases h9:ex=x
     ·rw[if_pos h9,List.filter_cons_of_neg (by simp[h9])];rfl
     ·rw[if_neg h9,List.filter_cons_of_pos (by simp[h9])];rfl
    have hflen:((R.hd.take n).filter (fun e=>e.x != x)).length≤R.hd.length:=Nat.le_trans (List.length_filter_le _ _) (by rw[List.length_take];omega)
    by_cases e1:ex=x
    ·rw[if_pos e1,List.append_nil] at hfl
     have HF:=hide hfl
     rw[e1] at k0
     have d1:(x != x)=false:=by simp
     clear hn hlt he hwn kc hll hgw hR how hfl hflen e1
     go_wp2_with fail
     exact⟨⟨n+1,HLT.out,by rw[HWN.out];exact rl1 n,by rw[HF.out];exact HOW.out,HGW.out⟩,by rw[HWN.out];exact ms_end HLT.out⟩
    ·rw[if_neg e1] at hfl
     have HF:=hide hfl
     have d1:(ex != x)=true:=by simp[e1]
     have d2:(ex==x)=false:=by simp[e1]
     have d3:decide (ex=x)=false:=by simp[e1]
     obtain⟨v9,w9,r1,r2,r3,-⟩:=app_lk (wr.alloc (.cells #[I ex,I r.lv,.string r.lb,I r.id,I ec,.bool eu] 73)) w3.heap.size _ _ [⟨ex,r,ec,eu⟩] (own_G how ((G.refl wr).alloc _)) ⟨wr.heap.size,0,none⟩ 1 1 rfl (fun j u hj=>by
      have:=(Blk.new wr [I ex,I r.lv,.string r.lb,I r.id,I ec,.bool eu] 73).cell j
      rw[Addr.add_mid,Nat.zero_add,this]
      exact hj) (by rw[List.length_singleton];omega) ((hgw.alloc _).size)
     have HG9:Hid (G w3 w9):=grown_G (hgw.alloc _) r3 (fun k hk=>(World.ownsRow.lt how k hk).1)
     have HA9:=hide r1;have HR9:=hide r2
     clear hn hlt he hwn kc hll hgw hR how hfl hflen e1 r1 r2 r3
     go_wp2_with (first|(at_builtin;refine wpList_append_run rfl _ _ 87 rfl _ _ rfl rfl HA9.out ?_)|fail)
     exact⟨⟨n+1,HLT.out,by rw[HWN.out];exact rl1 n,by rw[HF.out];exact HR9.out,HG9.out⟩,by rw[HWN.out];exact ms_end HLT.out⟩
   ·have hne:n=R.hd.length:=by omega
    subst hne
    have hnI:¬((R.hd.length:Int)<(R.hd.length:Int)):=by omega
    rw[List.take_length] at how
    obtain⟨p1,p2,p3⟩:=HP1.out.putH hgw.chg (own_lo how (Nat.zero_le _)) (fun k hk=>.inr (World.ownsRow.lt how k hk).1)
    obtain⟨oa,oc,hov⟩:=row_form how
    obtain⟨on,hon⟩:∃on,on=(R.hd.filter fun e=>e.x != x).length:=⟨_,rfl⟩
    rw[←hon] at hov
    subst hov
    have hz:=hR.blk.frozen
    obtain⟨c5,n5⟩:=chg_next HP2.out.1 HP2.out.2 p2 p3
    obtain⟨D5,hD5⟩:∃D5:Nat→Prop,D5=fun k=>D3 k∨(Value.slice oa on oc).ownBlock=some k:=⟨_,rfl⟩
    rw[←hD5] at p1
    replace n5:∀k,D5 k→D k∨w.heap.size≤k:=by rw[hD5];exact n5
    have HR5:=hide p1;have HC5:=hide c5;have HN5:=hide n5
    have KQ:=hide (request_r p1 x (show R.aq.length<2000000000000 by omega))
    have hfl:(R.hd.filter fun e=>e.x != x).length≤R.hd.length:=List.length_filter_le _ _
    have HFL:=hide hfl
    clear hn hlt hll hgw hR how p1 p2 p3 hon hD5 c5 n5 HP1 HP2 hfl
    rcases idxI_cases (fun e:Lk=>e.x==x) R.aq with ⟨hq1,hq2⟩|⟨n,q,hq1,hq2,hq3,hq4⟩
    ·replace KQ:Hid (Calls prog 25 #[ptr b,I x] (wr.setCell ⟨b,1,none⟩ (.slice oa on oc)) fun e w'=>e=.returned (I (-1))∧w'=wr.setCell ⟨b,1,none⟩ (.slice oa on oc)):=by have h9:=KQ.out;rw[show idxI (fun e:Lk=>e.x==x) (⟨R.tx.take k++R.tx.drop (k+1),R.hd.filter (fun e=>e.x != x),R.aq⟩:Rt).aq = -1 from hq1] at h9;exact h9
     have HEA:=hide (endR_no hq2 HR1.out)
     have KG:=HKG.out _ D5 (by rw[HEA.out];exact⟨_,_,_,_,HR5.out⟩)
     have HKG2:=hide KG
     clear hq1 hq2 KG
     go_wp2_with (first|(go_at_call 25;with_reducible refine(KQ.out).mono ?_;rintro e w' ⟨rfl,rfl⟩)|(go_at_call 36;(with_reducible refine(HKG2.out).mono ?_);rintro e w7 ⟨v7,hd7,aq7,got,D7,rfl,hj7,o7,rt7,c7,n7,nd7⟩;refine Hid.out ?_)|fail)
     unfold Hid
     obtain⟨c77,n77⟩:=chg_next HC5.out HN5.out c7 n7
     obtain⟨e1,e2⟩:=HKF.out hd7 aq7 got hj7
     have HKW:=hide (e2 w7 D7 rt7)
     have HC7:=hide c77;have HN7:=hide n77
     have HO7:=hide (own_chg (own_lo o7 HC5.out.size) (Chg.refl D7 w7) nd7);have HND7:=hide nd7
     have HE1:=hide e1
     clear c7 n7 c77 n77 o7 nd7 e2 e1 HKG2
     go_wp2_with (first|(go_at_call 30;(with_reducible refine(HKW.out).mono ?_);rintro e w8 ⟨v8,OUT,TX,last,D8,rfl,hj8,hmax,o8,rt8,c8,n8,nd8⟩)|fail)
     obtain⟨c88,n88⟩:=chg_next HC7.out HN7.out c8 n8
     have hfin:=HFI.out hd7 aq7 got hj7 TX OUT last hj8 (fun a ha=>by have:=hmax a ha;omega)
     exact bodyPost_ret (v:=.tuple #[v7,v8,.int .i64 0]) (by simp[results,results9,go_sem]) rfl ⟨v7,v8,rfl,by rw[←HE1.out];exact own_chg HO7.out c8 HND7.out,by have h9:=o8;rw[hfin.1] at h9;exact own_lo h9 HC7.out.size,⟨_,D8,rt8,hfin.2.1,c88,n88,hfin.2.2.1,hfin.2.2.2⟩⟩
    ·replace KQ:Hid (Calls prog 25 #[ptr b,I x] (wr.setCell ⟨b,1,none⟩ (.slice oa on oc)) fun e w'=>e=.returned (I (n:Int))∧w'=wr.setCell ⟨b,1,none⟩ (.slice oa on oc)):=by have h9:=KQ.out;rw[show idxI (fun e:Lk=>e.x==x) (⟨R.tx.take k++R.tx.drop (k+1),R.hd.filter (fun e=>e.x != x),R.aq⟩:Rt).aq=(n:Int)from hq1] at h9;exact h9
     have hn0:(0:Int)≤(n:Int):=by omega
     have hnl:=(List.getElem?_eq_some_iff.1 hq2).1
     have HEA:=hide (endR_yes hq2 hq3 hq4 HR1.out)
     have KL:=hide (leave_r HR5.out n (show n<R.aq.length from hnl) (show R.aq.length<400000000000 by have:=HLL.out;omega))
     clear hq1 hq2 hq3 hq4 hnl
     go_wp2_with (first|(go_at_call 25;with_reducible refine(KQ.out).mono ?_;rintro e w' ⟨rfl,rfl⟩)|(go_at_call 31;with_reducible refine(KL.out).mono ?_;rintro e w6 ⟨rfl,h6⟩;refine Hid.out ?_)|fail)
     unfold Hid
     obtain⟨D6,rt6,c6,n6⟩:=h6
     rw[←HEA.out] at rt6
     obtain⟨c66,n66⟩:=chg_next HC5.out HN5.out c6 n6
     have HKG2:=hide (HKG.out _ D6 rt6)
     have HC5:=hide c66
     have HN5:=hide n66
     clear c6 n6 rt6 KL KQ c66 n66
     go_wp2_with (first|(go_at_call 36;(with_reducible refine(HKG2.out).mono ?_);rintro e w7 ⟨v7,hd7,aq7,got,D7,rfl,hj7,o7,rt7,c7,n7,nd7⟩;refine Hid.out ?_)|fail)
     unfold Hid
     obtain⟨c77,n77⟩:=chg_next HC5.out HN5.out c7 n7
     obtain⟨e1,e2⟩:=HKF.out hd7 aq7 got hj7
     have HKW:=hide (e2 w7 D7 rt7)
     have HC7:=hide c77;have HN7:=hide n77
     have HO7:=hide (own_chg (own_lo o7 HC5.out.size) (Chg.refl D7 w7) nd7);have HND7:=hide nd7
     have HE1:=hide e1
     clear c7 n7 c77 n77 o7 nd7 e2 e1 HKG2
     go_wp2_with (first|(go_at_call 30;(with_reducible refine(HKW.out).mono ?_);rintro e w8 ⟨v8,OUT,TX,last,D8,rfl,hj8,hmax,o8,rt8,c8,n8,nd8⟩)|fail)
     obtain⟨c88,n88⟩:=chg_next HC7.out HN7.out c8 n8
     have hfin:=HFI.out hd7 aq7 got hj7 TX OUT last hj8 (fun a ha=>by have:=hmax a ha;omega)
     exact bodyPost_ret (v:=.tuple #[v7,v8,.int .i64 0]) (by simp[results,results9,go_sem]) rfl ⟨v7,v8,rfl,by rw[←HE1.out];exact own_chg HO7.out c8 HND7.out,by have h9:=o8;rw[hfin.1] at h9;exact own_lo h9 HC7.out.size,⟨_,D8,rt8,hfin.2.1,c88,n88,hfin.2.2.1,hfin.2.2.2⟩⟩
end
section
open Go.RowKit
def takT(tx:List Tx)(x st:Int):Prop:=∃e∈tx,e.x=x∨e.st=st
def BgP(w:World)(D:Nat→Prop)(b:Nat)(R:Rt)(x st:Int)(e:Ending)(w':World):Prop:=(takT R.tx x st∧e=.returned (I 80)∧w'=w)∨(¬takT R.tx x st∧e=.returned (I 0)∧Rst w D b ⟨R.tx++[⟨x,st,[]⟩],R.hd,R.aq⟩ w')
theorem begin_rarg(b:Nat)(x st:Int)(w:World)(hx:x<1∨st<1):Calls prog 72 #[ptr b,I x,I st] w fun e w'=>e=.returned (I 1)∧w'=w:=by
 by_cases h1:x<1
 ·clear hx
  go_enter func72,ntmps72
  go_wp2
  go_ret
  exact⟨rfl,rfl⟩
 ·have h2:st<1:=by omega
  have d1:decide (x<1)=false:=by simp;omega
  clear hx
  go_enter func72,ntmps72
  go_wp2
  go_ret
  exact⟨rfl,rfl⟩
theorem begin_r{w:World}{b:Nat}{R:Rt}{D:Nat→Prop}{vt vh va:Value}{tv:List (Tx×Value)}(h:RV w b R D vt vh va tv)(x st:Int)(hx:1≤x)(hs:1≤st)(hl:R.tx.length<400000000000):Calls prog 72 #[ptr b,I x,I st] w (BgP w D b R x st):=by
 obtain⟨ra,rcap,rfl⟩:=row_form h.rt
 have hbc:=h.blk.cell
 have hx1:¬x<1:=by omega
 have hs1:¬st<1:=by omega
 have H:=hide h;have HL:=hide hl
 clear h hl hx hs
 go_enter func72,ntmps72
 go_wp2_with fail
 go_loopw [7] (fun iv wr=>∃n:Nat,n≤tv.length∧iv=I (n:Int)∧wr=w∧∀(j:Nat) (e:Tx),j<n→R.tx[j]?=some e→¬(e.x=x∨e.st=st)) (fun iv _=>tv.length-(RowKit.intOf iv).toNat)
 case atStart=>exact⟨0,Nat.zero_le _,rfl,rfl,fun j e hj _=>by omega⟩
 case round=>
  obtain⟨n,hn,rfl,hwr,hno⟩:=hrel
  subst hwr
  have hll:=HL.out
  have htl:=H.out.tl
  by_cases hlt:n<tv.length
  ·obtain⟨⟨e,ev⟩,he⟩:∃a,tv[n]?=some a:=⟨_,List.getElem?_eq_getElem hlt⟩
   obtain⟨ga,hga,kc⟩:=row_cell tx_len H.out.rt he
   subst hga
   have k0:wr.cell? ⟨ga,n*3,none⟩=some (I e.x):=kc 0 (by omega)
   have k1:wr.cell? ⟨ga,n*3+1,none⟩=some (I e.st):=kc 1 (by omega)
   have hnI:(n:Int)<(tv.length:Int):=by omega
   have hwn:wrap64 ((n:Int)+1)=(n:Int)+1:=by unfold wrap64;omega
   have HWN:=hide hwn;have HLT:=hide hlt;have HE:=hide (at_fst H.out.tm he);have HNO:=hide hno
   clear hn hno hlt he hwn kc hll htl
   by_cases e1:e.x=x
   ·have HT:Hid (takT R.tx x st):=⟨e,List.mem_of_getElem? HE.out,.inl e1⟩
    rw[e1] at k0
    clear e1
    go_wp2
    go_ret
    exact .inl ⟨HT.out,rfl,rfl⟩
   ·have d1:(e.x==x)=false:=by simp[e1]
    have d2:decide (e.x=x)=false:=by simp[e1]
    by_cases e2:e.st=st
    ·have HT:Hid (takT R.tx x st):=⟨e,List.mem_of_getElem? HE.out,.inr e2⟩
     rw[e2] at k1
     clear e2
     go_wp2
     go_ret
     exact .inl ⟨HT.out,rfl,rfl⟩
    ·have d3:(e.st==st)=false:=by simp[e2]
     have d4:decide (e.st=st)=false:=by simp[e2]
     have HD1:Hid (¬(e.x=x∨e.st=st)):=fun hh=>hh.elim e1 e2
     go_wp2
     refine⟨⟨n+1,HLT.out,by rw[HWN.out];exact rl1 n,by first|rfl|trivial,fun j c hj hc=>?_⟩,by rw[HWN.out];exact ms_end HLT.out⟩
     by_cases ej:j=n
     ·subst ej
      rw[HE.out] at hc
      cases hc
      exact HD1.out
     ·exact HNO.out j c (by omega) hc
  ·have hne:n=tv.length:=by omega
   subst hne
   have hnI:¬((tv.length:Int)<(tv.length:Int)):=by omega
   have HT:Hid (¬takT R.tx x st):=by
    rintro⟨e,he,h2⟩
    obtain⟨j,hj⟩:=List.mem_iff_getElem?.1 he
    exact hno j e (by have:=(List.getElem?_eq_some_iff.1 hj).1;omega) hj h2
   have hb0:=H.out.blk.frozen
   obtain⟨v9,w9,r1,r2,r3,r4⟩:=app_tx (wr.alloc (.cells #[I x,I st,.slice none 0 0] 115)) 0 (.slice ra tv.length rcap) tv [(⟨x,st,[]⟩,.slice none 0 0)] (own_G H.out.rt ((G.refl wr).alloc _)) ⟨wr.heap.size,0,none⟩ 1 1 rfl (fun j u hj=>by
    have:=(Blk.new wr [I x,I st,.slice none 0 0] 115).cell j
    rw[Addr.add_mid,Nat.zero_add,this]
    exact hj) (fun u hu=>by simp[txc,txC] at hu;rcases hu with rfl|rfl|rfl<;>rfl) (by simp;omega) (Nat.zero_le _)
   have gA:G wr (wr.alloc (.cells #[I x,I st,.slice none 0 0] 115)):=(G.refl wr).alloc _
   have hcg:Chg (fun k=>(Value.slice ra tv.length rcap).ownBlock=some k) wr w9:=gA.chg.trans ⟨r3.os,r3.tape,r3.output,r3.size,fun k hk hn=>r3.block k hk (fun e=>hn e.symm)⟩
   obtain⟨p1,p2,p3⟩:=H.out.putT hcg r2 (fun k hk=>by
    rcases r4 with e|e
    ·rw[e] at hk;exact .inl hk
    ·rw[e] at hk;cases hk;exact .inr gA.size) (fun e he=>by
    rcases List.mem_append.1 he with he|he
    ·exact .inl he
    ·simp at he;subst he;exact .inr ⟨rfl,rfl⟩)
   have hb9:=(H.out.blk.chg hcg (own_ne H.out.rt H.out.blk (by decide))).cell
   have hz9:=(H.out.blk.chg hcg (own_ne H.out.rt H.out.blk (by decide))).frozen
   have HP:Hid (Rst wr D b ⟨R.tx++[⟨x,st,[]⟩],R.hd,R.aq⟩ (w9.setCell ⟨b,0,none⟩ v9)):=by
    have:=H.out.ends p1 p2 p3
    rw[List.map_append,H.out.tm] at this
    exact this
   obtain⟨a9,c9,hv9⟩:=row_form r2
   obtain⟨n9,hn9⟩:∃n9,n9=(tv++[((⟨x,st,[]⟩:Tx),Value.slice none 0 0)]).length:=⟨_,rfl⟩
   rw[←hn9] at hv9
   subst hv9
   have HA:=hide r1
   clear hn9
   clear hn hlt hno hll htl r1 r2 r3 r4 hcg p1 p2 p3 gA hb0
   go_wp2_with (first|(at_builtin;refine wpList_append_run rfl _ _ 86 rfl _ _ rfl rfl HA.out ?_)|fail)
   go_ret
   exact .inr ⟨HT.out,rfl,HP.out⟩
end
section
open Go.RowKit
def hidP(r:Rs)(l:List Lk):List Int:=putsP ((l.filter fun e=>decide (e.r=r)).map Lk.x)
def hldP(r:Rs)(l:List Lk):List (Int×Int):=(hidP r l).map fun a=>(a,hbI a r l)
theorem hidP_snoc(r:Rs)(l:List Lk)(e:Lk):hidP r (l++[e])=if e.r=r then insP e.x (hidP r l)else hidP r l:=by
 unfold hidP
 rw[List.filter_append,List.map_append]
 by_cases h:e.r=r
 ·rw[if_pos h,List.filter_cons_of_pos (by simp[h]),List.filter_nil]
  exact putsP_snoc _ _
 ·rw[if_neg h,List.filter_cons_of_neg (by simp[h]),List.filter_nil]
  simp
theorem hidP_len(r:Rs)(l:List Lk):(hidP r l).length≤l.length:=by
 unfold hidP
 have h1:=putsP_len ((l.filter fun e=>decide (e.r=r)).map Lk.x)
 rw[List.length_map] at h1
 have h2:=List.length_filter_le (fun e:Lk=>decide (e.r=r)) l
 omega
theorem holders_r{w:World}{b:Nat}{R:Rt}{D:Nat→Prop}{vt vh va:Value}{tv:List (Tx×Value)}(h:RV w b R D vt vh va tv)(r:Rs)(hr:resB r=true)(hl:R.hd.length<400000000000):Calls prog 41 #[ptr b,.agg #[I r.lv,.string r.lb,I r.id]] w fun e w'=>∃v,e=.returned v∧w'.ownsRow w.heap.size 68 2 v (hldP r R.hd).length (qc (hldP r R.hd))∧G w w':=by
 obtain⟨ra,rcap,rfl⟩:=row_form h.rh
 have KR:=hide (res_r r (w.alloc (.cells #[I r.lv,.string r.lb,I r.id] 33)))
 rw[hr] at KR
 have hc:=(Blk.new w [I r.lv,.string r.lb,I r.id] 33).cell
 have H:=hide h;have HLL:=hide hl
 clear h hl hr
 obtain⟨rl,rb,ri⟩:=r
 simp only at KR hc⊢
 go_enter func41,ntmps41
 go_wp2_with (first|(go_at_call 23;with_reducible refine(KR.out).mono ?_;rintro e w' ⟨rfl,rfl⟩)|fail)
 clear hc KR
 obtain⟨w1,hw1⟩:∃w1,w1=(w.alloc (.cells #[I rl,.string rb,I ri] 33)).alloc (.cells #[I rl,.string rb,I ri] 33):=⟨_,rfl⟩
 rw[←hw1]
 have H1:Hid (Blk w1 w.heap.size 33 [I rl,.string rb,I ri]∧G w w1):=by rw[hw1];exact⟨(Blk.new w [I rl,.string rb,I ri] 33).G ((G.refl _).alloc _),((G.refl w).alloc _).alloc _⟩
 clear hw1
 go_loopw [6,7] (fun ov iv wr=>∃n:Nat,n≤R.hd.length∧iv=I (n:Int)∧wr.ownsRow w.heap.size 3 1 ov (hidP ⟨rl,rb,ri⟩ (R.hd.take n)).length ((hidP ⟨rl,rb,ri⟩ (R.hd.take n)).map fun z=>I z)∧G w1 wr) (fun _ iv _=>R.hd.length-(RowKit.intOf iv).toNat)
 case atStart=>exact⟨0,Nat.zero_le _,rfl,⟨rfl,.inl ⟨rfl,rfl⟩⟩,G.refl _⟩
 case round=>
  obtain⟨n,hn,rfl,how,hgw⟩:=hrel
  have hll:=HLL.out
  have hR:=H.out.G (H1.out.2.trans hgw)
  have hbc:=hR.blk.cell
  by_cases hlt:n<R.hd.length
  ·obtain⟨⟨ex,⟨el,eb,ei⟩,ec,eu⟩,he⟩:∃a,R.hd[n]?=some a:=⟨_,List.getElem?_eq_getElem hlt⟩
   obtain⟨ga,hga,kc⟩:=row_cell lk_len hR.rh he
   subst hga
   have q1:wr.cell? ⟨ga,n*6+1,none⟩=some (I el):=kc 1 (by omega)
   have q2:wr.cell? ⟨ga,n*6+1+1,none⟩=some (.string eb):=kc 2 (by omega)
   have q3:wr.cell? ⟨ga,n*6+1+2,none⟩=some (I ei):=kc 3 (by omega)
   have q4:=(H1.out.1.G hgw).cell
   have hnI:(n:Int)<(R.hd.length:Int):=by omega
   have hn0:(0:Int)≤(n:Int):=by omega
   have hwn:wrap64 ((n:Int)+1)=(n:Int)+1:=by unfold wrap64;omega
   have hst:=hidP_snoc ⟨rl,rb,ri⟩ (R.hd.take n) ⟨ex,⟨el,eb,ei⟩,ec,eu⟩
   rw[←take_lk he] at hst
   have HWN:=hide hwn;have HLT:=hide hlt;have HGW:=hide hgw;have HOW:=hide how;have HE:=hide he
   clear hn hlt he hwn kc hll hgw hR how
   by_cases f1:el=rl
   ·subst f1
    by_cases f2:eb=rb
    ·subst f2
     by_cases f3:ei=ri
     ·subst f3
      have HST:=hide hst
      rw[if_pos rfl] at HST
      clear hst
      go_wp2_with fail
      go_quiet (fail)
      generalize hV:World.drewN wr _=V
      have HGV:Hid (G wr V):=by rw[←hV];exact(G.refl wr).drewN _
      clear hV hbc q1 q2 q3 q4
      have HGD:Hid (G w V):=H1.out.2.trans (HGW.out.trans HGV.out)
      have hR:=H.out.G HGD.out
      have hbc:=hR.blk.cell
      obtain⟨gb,hgb,kc⟩:=row_cell lk_len hR.rh HE.out
      have eg:ga=gb:=by simpa using hgb
      subst eg
      have k0:V.cell? ⟨ga,n*6,none⟩=some (I ex):=kc 0 (by omega)
      have KP:=hide (put_r V w.heap.size u6 _ ex (own_G HOW.out HGV.out) (putsP_up _) (by have:=HLL.out;have h1:=hidP_len ⟨el,eb,ei⟩ (R.hd.take n);rw[List.length_take] at h1;show(hidP _ _).length<_;omega))
      clear hgb kc hR
      go_wp2_with (first|(go_at_call 64;with_reducible refine(KP.out).mono ?_;rintro e w9 ⟨v9,rfl,o9,g9⟩)|fail)
      exact⟨⟨n+1,HLT.out,by rw[HWN.out];exact rl1 n,by rw[HST.out];exact own_lo o9 HGD.out.size,HGW.out.trans (HGV.out.trans g9)⟩,by rw[HWN.out];exact ms_end HLT.out⟩
     ·have d4:(ei==ri)=false:=by simp[f3]
      have d5:decide (ei=ri)=false:=by simp[f3]
      have HST:=hide hst
      rw[if_neg (by simp[f3])] at HST
      clear hst
      go_wp2_with fail
      go_quiet (fail)
      generalize hV:World.drewN wr _=V
      have HGV:Hid (G wr V):=by rw[←hV];exact(G.refl wr).drewN _
      clear hV hbc q1 q2 q3 q4
      go_wp2_with fail
      exact⟨⟨n+1,HLT.out,by rw[HWN.out];exact rl1 n,by rw[HST.out];exact own_G HOW.out HGV.out,HGW.out.trans HGV.out⟩,by rw[HWN.out];exact ms_end HLT.out⟩
    ·have d4:¬eb.toList=rb.toList:=fun q=>f2 (toList_inj q)
     have HST:=hide hst
     rw[if_neg (by simp[f2])] at HST
     clear hst
     go_wp2_with fail
     go_quiet (fail)
     generalize hV:World.drewN wr _=V
     have HGV:Hid (G wr V):=by rw[←hV];exact(G.refl wr).drewN _
     clear hV hbc q1 q2 q3 q4
     go_wp2_with fail
     exact⟨⟨n+1,HLT.out,by rw[HWN.out];exact rl1 n,by rw[HST.out];exact own_G HOW.out HGV.out,HGW.out.trans HGV.out⟩,by rw[HWN.out];exact ms_end HLT.out⟩
   ·have d4:(el==rl)=false:=by simp[f1]
    have d5:decide (el=rl)=false:=by simp[f1]
    have HST:=hide hst
    rw[if_neg (by simp[f1])] at HST
    clear hst
    go_wp2_with fail
    go_quiet (fail)
    generalize hV:World.drewN wr _=V
    have HGV:Hid (G wr V):=by rw[←hV];exact(G.refl wr).drewN _
    clear hV hbc q1 q2 q3 q4
    go_wp2_with fail
    exact⟨⟨n+1,HLT.out,by rw[HWN.out];exact rl1 n,by rw[HST.out];exact own_G HOW.out HGV.out,HGW.out.trans HGV.out⟩,by rw[HWN.out];exact ms_end HLT.out⟩
  ·have hne:n=R.hd.length:=by omega
   subst hne
   have hnI:¬((R.hd.length:Int)<(R.hd.length:Int)):=by omega
   rw[List.take_length] at how
   have hidl:=hidP_len ⟨rl,rb,ri⟩ R.hd
   obtain⟨ids,hids⟩:∃ids,ids=hidP ⟨rl,rb,ri⟩ R.hd:=⟨_,rfl⟩
   rw[←hids] at how hidl
   obtain⟨ia,ic,rfl⟩:=row_form how
   have HID:=hide hids;have HIL:Hid (ids.length<400000000000):=by show _<_;omega
   have HIDS:=hide how
   have H2:Hid (Blk wr w.heap.size 33 [I rl,.string rb,I ri]∧G w wr):=⟨H1.out.1.G hgw,H1.out.2.trans hgw⟩
   clear hn hlt hll hgw hR how hids hidl H1
   go_wp2_with fail
   clear hbc
   generalize wr=w2 at H2 HIDS⊢
   obtain⟨vi,hvi⟩:∃vi,vi=Value.slice ia ids.length ic:=⟨_,rfl⟩
   have HVI:=hide hvi
   rw[←hvi] at HIDS
   clear hvi
   go_loopw [5,8] (fun ov iv wr=>∃n:Nat,n≤ids.length∧iv=I (n:Int)∧wr.ownsRow w.heap.size 68 2 ov ((ids.take n).map fun a=>(a,hbI a ⟨rl,rb,ri⟩ R.hd)).length (qc ((ids.take n).map fun a=>(a,hbI a ⟨rl,rb,ri⟩ R.hd)))∧wr.ownsRow w.heap.size 3 1 vi ids.length (ids.map fun z=>I z)∧G w wr∧Blk wr w.heap.size 33 [I rl,.string rb,I ri]) (fun _ iv _=>ids.length-(RowKit.intOf iv).toNat)
   case atStart=>exact⟨0,Nat.zero_le _,rfl,⟨rfl,.inl ⟨rfl,rfl⟩⟩,HIDS.out,H2.out.2,H2.out.1⟩
   case round=>
    obtain⟨n,hn,rfl,how,hvr,hgw,hbx⟩:=hrel
    have hll:=HIL.out
    by_cases hlt:n<ids.length
    ·obtain⟨x,hx⟩:∃a,ids[n]?=some a:=⟨_,List.getElem?_eq_getElem hlt⟩
     have hvr2:=hvr
     rw[HVI.out] at hvr2
     obtain⟨ga,hga,k0⟩:=int_at hvr2 hx
     subst hga
     have hnI:(n:Int)<(ids.length:Int):=by omega
     have hn0:(0:Int)≤(n:Int):=by omega
     have hwn:wrap64 ((n:Int)+1)=(n:Int)+1:=by unfold wrap64;omega
     have HST:=hide (take_map_snoc (fun a=>(a,hbI a ⟨rl,rb,ri⟩ R.hd)) hx)
     have HLO:Hid (((ids.take n).map fun a=>(a,hbI a ⟨rl,rb,ri⟩ R.hd)).length<4100000000000):=by show _<_;rw[List.length_map,List.length_take];omega
     have HWN:=hide hwn;have HLT:=hide hlt;have HG0:=hide hgw;have HOW:=hide how;have HBX:=hide hbx
     have HIDS:=hide hvr
     have hgl:ga<wr.heap.size:=own_lt hvr2 rfl
     have HX:=hide hx
     have HSS:Hid (∀U,G wr U→(fun U=>G w U∧U.cell? ⟨ga,n,none⟩=some (I x)∧∀o,U.cell? ⟨w.heap.size,o,none⟩=([I rl,.string rb,I ri]:List Value)[o]?) U):=fun U hU=>⟨HG0.out.trans hU,(hU.cell hgl).trans k0,(HBX.out.G hU).cell⟩
     have KH:Hid (∀U,G w U→Calls prog 26 #[ptr b,I x,.agg #[I rl,.string rb,I ri]] U fun e w'=>e=.returned (I (hbI x ⟨rl,rb,ri⟩ R.hd))∧G U w'):=fun U hU=>heldBy_r (H.out.G hU) x ⟨rl,rb,ri⟩ (by have:=HLL.out;omega)
     clear hn hlt hx hwn hll hgw how hvr hbx hvr2 k0 hgl
     rw[HVI.out]
     go_wp2_with fail
     refine wp_region_noPanic ?_
     refine wp_region_held_drew (S:=(fun U=>G w U∧U.cell? ⟨ga,n,none⟩=some (I x)∧∀o,U.cell? ⟨w.heap.size,o,none⟩=([I rl,.string rb,I ri]:List Value)[o]?)) (by kernel_rfl) (HSS.out _ (G.refl wr).drew) (fun hHeld=>?_)
     refine wpAnyH_take (i:=0) (v:=?_) rfl (by kernel_rfl) (by kernel_rfl) (by kernel_rfl) (fun _ _ _ h=>h) (Or.inl ⟨by rfl,?_⟩) hHeld ?_
     rotate_left 1
     ·(intro w hSw;obtain⟨q0,q1,q2⟩:=hSw;go_simp;try with_reducible rfl)
     try simp only[Act.put,zzA,zzB,zzD,zzE,zzF]
     refine wpAnyH_take (i:=1) (v:=?_) rfl (by kernel_rfl) (by kernel_rfl) (by kernel_rfl) (fun _ _ _ h=>h) (Or.inl ⟨by rfl,?_⟩) hHeld ?_
     rotate_left 1
     ·(intro w hSw;obtain⟨q0,q1,q2⟩:=hSw;go_simp;try with_reducible rfl)
     try simp only[Act.put,zzA,zzB,zzC,zzD,zzE,zzF]
     refine wpAnyH_take (i:=2) (v:=?_) rfl (by kernel_rfl) (by kernel_rfl) (by kernel_rfl) (fun _ _ _ h=>h) (Or.inl ⟨by rfl,?_⟩) hHeld ?_
     rotate_left 1
     ·(intro w hSw;obtain⟨q0,q1,q2⟩:=hSw;go_simp;try with_reducible rfl)
     try simp only[Act.put,zzA,zzB,zzC,zzD,zzE,zzF]
     refine wpAnyH_take (i:=3) (v:=?_) rfl (by kernel_rfl) (by kernel_rfl) (by kernel_rfl) (fun _ _ _ h=>h) (Or.inl ⟨by rfl,?_⟩) hHeld ?_
     rotate_left 1
     ·(intro w hSw;obtain⟨q0,q1,q2⟩:=hSw;go_simp;try with_reducible rfl)
     try simp only[Act.put,zzA,zzB,zzC,zzD,zzE,zzF]
     refine wpAnyH_take (i:=4) (v:=?_) rfl (by kernel_rfl) (by kernel_rfl) (by kernel_rfl) (fun _ _ _ h=>h) (Or.inl ⟨by rfl,?_⟩) hHeld ?_
     rotate_left 1
     ·(intro w hSw;obtain⟨q0,q1,q2⟩:=hSw;go_simp;try with_reducible rfl)
     try simp only[Act.put,zzA,zzB,zzC,zzD,zzE,zzF]
     refine wpAnyH_take (i:=5) (v:=?_) rfl (by kernel_rfl) (by kernel_rfl) (by kernel_rfl) (fun _ _ _ h=>h) (Or.inl ⟨by rfl,?_⟩) hHeld ?_
     rotate_left 1
     ·(intro w hSw;obtain⟨q0,q1,q2⟩:=hSw;go_simp;try with_reducible rfl)
     try simp only[Act.put,zzA,zzB,zzC,zzD,zzE,zzF]
     refine wpAnyH_take (i:=6) (v:=?_) rfl (by kernel_rfl) (by kernel_rfl) (by kernel_rfl) (fun _ _ _ h=>h) (Or.inl ⟨by rfl,?_⟩) hHeld ?_
     rotate_left 1
     ·(intro w hSw;obtain⟨q0,q1,q2⟩:=hSw;go_simp;try with_reducible rfl)
     try simp only[Act.put,zzA,zzB,zzC,zzD,zzE,zzF]
     refine wpAnyH_take (i:=7) (v:=?_) rfl (by kernel_rfl) (by kernel_rfl) (by kernel_rfl) (fun _ _ _ h=>h) (Or.inl ⟨by rfl,?_⟩) hHeld ?_
     rotate_left 1
     ·(intro w hSw;obtain⟨q0,q1,q2⟩:=hSw;go_simp;try with_reducible rfl)
     try simp only[Act.put,zzA,zzB,zzC,zzD,zzE,zzF]
     refine wpAnyH_take (i:=8) (v:=?_) rfl (by kernel_rfl) (by kernel_rfl) (by kernel_rfl) (fun _ _ _ h=>h) (Or.inl ⟨by rfl,?_⟩) hHeld ?_
     rotate_left 1
     ·(intro w hSw;obtain⟨q0,q1,q2⟩:=hSw;go_simp;try with_reducible rfl)
     try simp only[Act.put,zzA,zzB,zzC,zzD,zzE,zzF]
     refine wpAnyH_take (i:=9) (v:=?_) rfl (by kernel_rfl) (by kernel_rfl) (by kernel_rfl) (fun _ _ _ h=>h) (Or.inl ⟨by rfl,?_⟩) hHeld ?_
     rotate_left 1
     ·(intro w hSw;obtain⟨q0,q1,q2⟩:=hSw;go_simp;try with_reducible rfl)
     try simp only[Act.put,zzA,zzB,zzC,zzD,zzE,zzF]
     refine wpAnyH_take (i:=10) (v:=?_) rfl (by kernel_rfl) (by kernel_rfl) (by kernel_rfl) (fun _ _ _ h=>h) (Or.inl ⟨by rfl,?_⟩) hHeld ?_
     rotate_left 1
     ·(intro w hSw;obtain⟨q0,q1,q2⟩:=hSw;go_simp;try with_reducible rfl)
     try simp only[Act.put,zzA,zzB,zzC,zzD,zzE,zzF]
     refine wpAnyH_ready (rs:=[11]) (by kernel_rfl) (by simp) (AllReadyH.cons rfl (fun K hK=>?_) AllReadyH.nil)
     have hgc:=hHeld
     clear hHeld
     go_simp
     with_reducible refine(KH.out _ hgc.1).mono ?_
     rintro e w3 ⟨rfl,hg3⟩
     have HG3:Hid (G wr w3):=((G.refl wr).drew).trans hg3
     obtain⟨v9,w9,r1,r2,r3⟩:=app_held w3 w.heap.size u5 _ x (hbI x ⟨rl,rb,ri⟩ R.hd) (own_G HOW.out HG3.out) HLO.out (HG0.out.trans HG3.out).size
     have hcg:Chg (fun k=>u5.ownBlock=some k) (w3.alloc (.cells #[I x,I (hbI x ⟨rl,rb,ri⟩ R.hd)] 68)) w9:=⟨r3.os,r3.tape,r3.output,r3.size,fun k hk hn=>r3.block k hk (fun e=>hn e.symm)⟩
     have HV9:Hid (w9.ownsRow w.heap.size 3 1 vi ids.length (ids.map fun z=>I z)):=own_chg (own_G HIDS.out (HG3.out.alloc _)) hcg (fun b hb e=>own_apart HOW.out HIDS.out (by decide) b e hb)
     have HR2:=hide r2
     have HG9:Hid (G w w9):=grown_G ((HG0.out.trans HG3.out).alloc _) r3 (fun k hk=>(World.ownsRow.lt HOW.out k hk).1)
     have HR9:=hide r1
     have HB9:Hid (Blk w9 w.heap.size 33 [I rl,.string rb,I ri]):=(HBX.out.G (HG3.out.alloc _)).chg hcg (fun e=>own_ne HOW.out HBX.out (by decide) e)
     have HS9:Hid ((fun U=>G w U∧U.cell? ⟨ga,n,none⟩=some (I x)∧∀o,U.cell? ⟨w.heap.size,o,none⟩=([I rl,.string rb,I ri]:List Value)[o]?) w9):=⟨HG9.out,by
      obtain⟨gb,hgb,k9⟩:=int_at (by rw[←HVI.out];exact HV9.out) HX.out
      have eg:ga=gb:=by simpa using hgb
      subst eg
      exact k9,HB9.out.cell⟩
     clear r1 r2 r3 hg3 hgc hcg
     refine hK.out _ _ (HSS.out _ HG3.out) (fun hHeld=>?_)
     clear hK K
     try simp only[Act.put,zzA,zzB,zzC,zzD,zzE,zzF]
     refine wpAnyH_take (i:=12) (v:=?_) rfl (by kernel_rfl) (by kernel_rfl) (by kernel_rfl) (fun _ _ _ h=>h) (Or.inl ⟨by rfl,?_⟩) hHeld ?_
     rotate_left 1
     ·(intro w hSw;(try dsimp only at hSw);go_simp;try with_reducible rfl)
     try simp only[Act.put,zzA,zzB,zzC,zzD,zzE,zzF]
     refine wpAnyH_ready (rs:=[13]) (by kernel_rfl) (by simp) (AllReadyH.cons rfl (fun K hK=>?_) AllReadyH.nil)
     clear hHeld
     go_simp
     refine hK.out _ _ (HSS.out _ (HG3.out.alloc _)) (fun hHeld=>?_)
     clear hK K
     try simp only[Act.put,zzA,zzB,zzC,zzD,zzE,zzF]
     refine wpAnyH_ready (rs:=[14]) (by kernel_rfl) (by simp) (AllReadyH.cons rfl (fun K hK=>?_) AllReadyH.nil)
     clear hHeld
     refine(if_pos rfl).mpr ?_
     refine wp_of_exec (exec_append _ _ 91 rfl u5 (.slice (some ⟨w3.heap.size,0,none⟩) 1 1) rfl rfl 91 rfl HR9.out) ?_
     refine hK.out _ _ (HS9.out) (fun hHeld=>?_)
     clear hK K
     try simp only[Act.put,zzA,zzB,zzC,zzD,zzE,zzF]
     refine wpAnyH_take (i:=15) (v:=?_) rfl (by kernel_rfl) (by kernel_rfl) (by kernel_rfl) (fun _ _ _ h=>h) (Or.inl ⟨by rfl,?_⟩) hHeld ?_
     rotate_left 1
     ·(intro w hSw;(try dsimp only at hSw);go_simp;try with_reducible rfl)
     try simp only[Act.put,zzA,zzB,zzC,zzD,zzE,zzF]
     refine wpAnyH_done (by kernel_rfl) ?_ _
     refine NoPanic.normal ?_
     go_wp2_with fail
     exact⟨⟨n+1,HLT.out,by rw[HWN.out];exact rl1 n,by rw[HST.out];exact HR2.out,by rw[←HVI.out];exact HV9.out,HG9.out,HB9.out⟩,by rw[HWN.out];exact ms_end HLT.out⟩
    ·have hne:n=ids.length:=by omega
     subst hne
     have hnI:¬((ids.length:Int)<(ids.length:Int)):=by omega
     rw[List.take_length] at how
     have HGW:=hide hgw;have HOW:=hide how
     clear hn hlt hll hgw how hvr hbx
     rw[HVI.out]
     go_wp2_with fail
     go_ret
     exact⟨_,rfl,by unfold hldP;rw[←HID.out];exact HOW.out,HGW.out⟩
end
end Go.Proofs.YtadfaiciolfgjaaGreatDoor
