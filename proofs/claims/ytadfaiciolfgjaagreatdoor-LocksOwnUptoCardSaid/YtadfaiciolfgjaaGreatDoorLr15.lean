import Derived.Test.YtadfaiciolfgjaaGreatDoorLr14b
namespace Go.Proofs.YtadfaiciolfgjaaGreatDoor
open Go.Proofs.Tryz
set_option maxHeartbeats 1000000
set_option maxRecDepth 100000
section
open Go.RowKit
theorem enter_at_false{w:World}{b ga cap:Nat}{tx:List Tx}{hd aq:List Lk}{D:Nat→Prop}{vt vh:Value}{tv:List (Tx×Value)}(h:RV w b ⟨tx,hd,aq⟩ D vt vh (.slice (some ⟨ga,0,none⟩) aq.length cap) tv)(x lv:Int)(lb:ByteArray)(id c:Int)(hl:aq.length<400000000000)(hcap:aq.length≤cap):Calls prog 28 #[ptr b,.agg #[I x,I lv,.string lb,I id,I c,.bool false]] w fun e w'=>e=.returned (I (entN ⟨x,⟨lv,lb,id⟩,c,false⟩ aq:Int))∧Rst w D b ⟨tx,hd,entP ⟨x,⟨lv,lb,id⟩,c,false⟩ aq⟩ w':=by
 have H:=hide h
 have hbc0:=h.blk.cell
 have HBX:Hid (Blk (w.alloc (.cells #[I x,I lv,.string lb,I id,I c,.bool false] 73)) w.heap.size 73 [I x,I lv,.string lb,I id,I c,.bool false]∧G w (w.alloc (.cells #[I x,I lv,.string lb,I id,I c,.bool false] 73))):=⟨Blk.new w _ 73,(G.refl w).alloc _⟩
 have hc0:=HBX.out.1.cell
 have hR:=h.G HBX.out.2
 have hbb:=hR.blk.cell
 have HEN:Hid (aq.length=entN ⟨x,⟨lv,lb,id⟩,c,false⟩ aq):=by simp[Hid,entN]
 have ha:aq.length≤aq.length:=Nat.le_refl _
 by_cases hcn:cap=aq.length
 ·subst hcn
  clear h hcap
  have hcells:∀Z,G (w.alloc (.cells #[I x,I lv,.string lb,I id,I c,.bool false] 73)) Z→∀j u,(lkc aq)[j]?=some u→Z.cell? ⟨ga,j,none⟩=some u:=fun Z hZ j u hj=>by
   have h2:=(hR.G hZ).ra
   have hjl:=(List.getElem?_eq_some_iff.1 hj).1
   rw[show(lkc aq).length=aq.length*6 from flat_len Lk.cs 6 lk_len aq] at hjl
   rw[h2.cellAt j hjl];exact hj
  obtain⟨v1,w1,r1,r2,r3,-⟩:=app_lk (w.alloc (.cells #[I x,I lv,.string lb,I id,I c,.bool false] 73)) (w.alloc (.cells #[I x,I lv,.string lb,I id,I c,.bool false] 73)).heap.size (.slice none 0 0) [] (aq.take aq.length) ⟨rfl,.inl ⟨rfl,rfl⟩⟩ ⟨ga,0,none⟩ aq.length aq.length (by rw[List.length_take];omega) (fun j u hj=>by
   rw[Addr.add_mid,Nat.zero_add]
   refine hcells (w.alloc (.cells #[I x,I lv,.string lb,I id,I c,.bool false] 73)) (G.refl _) j u ?_
   have e:=lkc_app (aq.take aq.length) (aq.drop aq.length)
   rw[List.take_append_drop] at e
   rw[e,List.getElem?_append_left (List.getElem?_eq_some_iff.1 hj).1];exact hj) (by rw[List.length_take,List.length_nil];omega) (Nat.le_refl _)
  have g1:G (w.alloc (.cells #[I x,I lv,.string lb,I id,I c,.bool false] 73)) w1:=grown_G (G.refl _) r3 (fun k hk=>by cases hk)
  rw[List.nil_append] at r2
  obtain⟨x1,y1,hv1⟩:=row_form r2
  obtain⟨n1,hn1⟩:∃n1,n1=(aq.take aq.length).length:=⟨_,rfl⟩
  rw[←hn1] at hv1
  subst hv1
  clear hn1 r3
  have hqb1:=(HBX.out.1.G g1).cell
  obtain⟨v2,w2,s1,s2,s3,-⟩:=app_lk (w1.alloc (.cells #[I x,I lv,.string lb,I id,I c,.bool false] 73)) (w.alloc (.cells #[I x,I lv,.string lb,I id,I c,.bool false] 73)).heap.size (.slice x1 n1 y1) (aq.take aq.length) [⟨x,⟨lv,lb,id⟩,c,false⟩] (own_G r2 ((G.refl w1).alloc _)) ⟨w1.heap.size,0,none⟩ 1 1 rfl (fun j u hj=>by
   have:=(Blk.new w1 [I x,I lv,.string lb,I id,I c,.bool false] 73).cell j
   rw[Addr.add_mid,Nat.zero_add,this]
   exact hj) (by rw[List.length_take,List.length_singleton];omega) ((g1.alloc _).size)
  have g2:G (w.alloc (.cells #[I x,I lv,.string lb,I id,I c,.bool false] 73)) w2:=grown_G (g1.alloc _) s3 (fun k hk=>(World.ownsRow.lt r2 k hk).1)
  obtain⟨x2,y2,hv2⟩:=row_form s2
  obtain⟨n2,hn2⟩:∃n2,n2=((aq.take aq.length)++[(⟨x,⟨lv,lb,id⟩,c,false⟩:Lk)]).length:=⟨_,rfl⟩
  rw[←hn2] at hv2
  subst hv2
  clear hn2 s3
  obtain⟨v3,w3,q1,q2,q3,-⟩:=app_lk w2 (w.alloc (.cells #[I x,I lv,.string lb,I id,I c,.bool false] 73)).heap.size (.slice x2 n2 y2) ((aq.take aq.length)++[⟨x,⟨lv,lb,id⟩,c,false⟩]) (aq.drop aq.length) s2 ⟨ga,0,none⟩ 0 0 (by rw[List.length_drop];try omega) (fun j u hj=>by
   rw[List.drop_of_length_le (Nat.le_refl _)] at hj;cases hj) (by rw[List.length_append,List.length_take,List.length_drop,List.length_singleton];omega) g2.size
  have g3:G (w.alloc (.cells #[I x,I lv,.string lb,I id,I c,.bool false] 73)) w3:=grown_G g2 q3 (fun k hk=>(World.ownsRow.lt s2 k hk).1)
  obtain⟨x3,y3,hv3⟩:=row_form q2
  obtain⟨n3,hn3⟩:∃n3,n3=((aq.take aq.length)++[(⟨x,⟨lv,lb,id⟩,c,false⟩:Lk)]++aq.drop aq.length).length:=⟨_,rfl⟩
  rw[←hn3] at hv3
  subst hv3
  clear hn3 q3
  have hap:entP ⟨x,⟨lv,lb,id⟩,c,false⟩ aq=(aq.take aq.length)++[⟨x,⟨lv,lb,id⟩,c,false⟩]++aq.drop aq.length:=by
   unfold entP
   rw[←HEN.out,List.append_assoc];rfl
  obtain⟨p1,p2,p3⟩:=hR.putA g3.chg (own_lo q2 (Nat.zero_le _)) (fun k hk=>.inr (World.ownsRow.lt q2 k hk).1)
  have HP:Hid (Rst w D b ⟨tx,hd,entP ⟨x,⟨lv,lb,id⟩,c,false⟩ aq⟩ (w3.setCell ⟨b,2,none⟩ (.slice x3 n3 y3))):=by
   rw[hap]
   exact H.out.ends p1 (HBX.out.2.chg.trans p2) (fun k hk=>by
    rcases p3 k hk with hk|hk
    ·exact .inl hk
    ·exact .inr (Nat.le_trans HBX.out.2.size hk))
  have hbc:=hR.blk.cell
  have hb1:=(hR.blk.G g1).cell
  have hb2:=(hR.blk.G g2).cell
  have hb3:=(hR.blk.G g3).cell
  have hz3:=(hR.blk.G g3).frozen
  have HA:=hide r1;have HB:=hide s1;have HC:=hide q1
  clear hcells
  clear r1 r2 s1 s2 q1 q2 p1 p2 p3 hap hR g1 g2 g3
  go_enter func28,ntmps28
  go_wp2_with (first|(at_builtin;refine wpList_append_run rfl _ _ 87 rfl _ _ rfl rfl HA.out ?_;refine Hid.out ?_)|fail)
  unfold Hid
  go_wp2_with (first|(at_builtin;refine wpList_append_run rfl _ _ 87 rfl _ _ rfl rfl HB.out ?_;refine Hid.out ?_)|fail)
  unfold Hid
  go_wp2_with (first|(at_builtin;refine wpList_append_run rfl _ _ 87 rfl _ _ rfl rfl HC.out ?_)|fail)
  go_ret
  exact⟨by first|(rw[←HEN.out];rfl)|rw[←HEN.out],HP.out⟩
 ·have hcI:(aq.length:Int)≤(cap:Int):=by omega
  clear h
  have hcells:∀Z,G (w.alloc (.cells #[I x,I lv,.string lb,I id,I c,.bool false] 73)) Z→∀j u,(lkc aq)[j]?=some u→Z.cell? ⟨ga,j,none⟩=some u:=fun Z hZ j u hj=>by
   have h2:=(hR.G hZ).ra
   have hjl:=(List.getElem?_eq_some_iff.1 hj).1
   rw[show(lkc aq).length=aq.length*6 from flat_len Lk.cs 6 lk_len aq] at hjl
   rw[h2.cellAt j hjl];exact hj
  obtain⟨v1,w1,r1,r2,r3,-⟩:=app_lk (w.alloc (.cells #[I x,I lv,.string lb,I id,I c,.bool false] 73)) (w.alloc (.cells #[I x,I lv,.string lb,I id,I c,.bool false] 73)).heap.size (.slice none 0 0) [] (aq.take aq.length) ⟨rfl,.inl ⟨rfl,rfl⟩⟩ ⟨ga,0,none⟩ aq.length cap (by rw[List.length_take];omega) (fun j u hj=>by
   rw[Addr.add_mid,Nat.zero_add]
   refine hcells (w.alloc (.cells #[I x,I lv,.string lb,I id,I c,.bool false] 73)) (G.refl _) j u ?_
   have e:=lkc_app (aq.take aq.length) (aq.drop aq.length)
   rw[List.take_append_drop] at e
   rw[e,List.getElem?_append_left (List.getElem?_eq_some_iff.1 hj).1];exact hj) (by rw[List.length_take,List.length_nil];omega) (Nat.le_refl _)
  have g1:G (w.alloc (.cells #[I x,I lv,.string lb,I id,I c,.bool false] 73)) w1:=grown_G (G.refl _) r3 (fun k hk=>by cases hk)
  rw[List.nil_append] at r2
  obtain⟨x1,y1,hv1⟩:=row_form r2
  obtain⟨n1,hn1⟩:∃n1,n1=(aq.take aq.length).length:=⟨_,rfl⟩
  rw[←hn1] at hv1
  subst hv1
  clear hn1 r3
  have hqb1:=(HBX.out.1.G g1).cell
  obtain⟨v2,w2,s1,s2,s3,-⟩:=app_lk (w1.alloc (.cells #[I x,I lv,.string lb,I id,I c,.bool false] 73)) (w.alloc (.cells #[I x,I lv,.string lb,I id,I c,.bool false] 73)).heap.size (.slice x1 n1 y1) (aq.take aq.length) [⟨x,⟨lv,lb,id⟩,c,false⟩] (own_G r2 ((G.refl w1).alloc _)) ⟨w1.heap.size,0,none⟩ 1 1 rfl (fun j u hj=>by
   have:=(Blk.new w1 [I x,I lv,.string lb,I id,I c,.bool false] 73).cell j
   rw[Addr.add_mid,Nat.zero_add,this]
   exact hj) (by rw[List.length_take,List.length_singleton];omega) ((g1.alloc _).size)
  have g2:G (w.alloc (.cells #[I x,I lv,.string lb,I id,I c,.bool false] 73)) w2:=grown_G (g1.alloc _) s3 (fun k hk=>(World.ownsRow.lt r2 k hk).1)
  obtain⟨x2,y2,hv2⟩:=row_form s2
  obtain⟨n2,hn2⟩:∃n2,n2=((aq.take aq.length)++[(⟨x,⟨lv,lb,id⟩,c,false⟩:Lk)]).length:=⟨_,rfl⟩
  rw[←hn2] at hv2
  subst hv2
  clear hn2 s3
  obtain⟨v3,w3,q1,q2,q3,-⟩:=app_lk w2 (w.alloc (.cells #[I x,I lv,.string lb,I id,I c,.bool false] 73)).heap.size (.slice x2 n2 y2) ((aq.take aq.length)++[⟨x,⟨lv,lb,id⟩,c,false⟩]) (aq.drop aq.length) s2 ⟨ga,aq.length*6,none⟩ 0 (cap-aq.length) (by rw[List.length_drop];try omega) (fun j u hj=>by
   rw[Addr.add_mid]
   refine hcells w2 g2 _ u ?_
   have e:=lkc_app (aq.take aq.length) (aq.drop aq.length)
   rw[List.take_append_drop] at e
   have hlt:(lkc (aq.take aq.length)).length=aq.length*6:=by
    rw[show(lkc (aq.take aq.length)).length=(aq.take aq.length).length*6 from flat_len Lk.cs 6 lk_len _,List.length_take,Nat.min_eq_left ha]
   rw[e,List.getElem?_append_right (by omega),hlt,Nat.add_sub_cancel_left];exact hj) (by rw[List.length_append,List.length_take,List.length_drop,List.length_singleton];omega) g2.size
  have g3:G (w.alloc (.cells #[I x,I lv,.string lb,I id,I c,.bool false] 73)) w3:=grown_G g2 q3 (fun k hk=>(World.ownsRow.lt s2 k hk).1)
  obtain⟨x3,y3,hv3⟩:=row_form q2
  obtain⟨n3,hn3⟩:∃n3,n3=((aq.take aq.length)++[(⟨x,⟨lv,lb,id⟩,c,false⟩:Lk)]++aq.drop aq.length).length:=⟨_,rfl⟩
  rw[←hn3] at hv3
  subst hv3
  clear hn3 q3
  have hap:entP ⟨x,⟨lv,lb,id⟩,c,false⟩ aq=(aq.take aq.length)++[⟨x,⟨lv,lb,id⟩,c,false⟩]++aq.drop aq.length:=by
   unfold entP
   rw[←HEN.out,List.append_assoc];rfl
  obtain⟨p1,p2,p3⟩:=hR.putA g3.chg (own_lo q2 (Nat.zero_le _)) (fun k hk=>.inr (World.ownsRow.lt q2 k hk).1)
  have HP:Hid (Rst w D b ⟨tx,hd,entP ⟨x,⟨lv,lb,id⟩,c,false⟩ aq⟩ (w3.setCell ⟨b,2,none⟩ (.slice x3 n3 y3))):=by
   rw[hap]
   exact H.out.ends p1 (HBX.out.2.chg.trans p2) (fun k hk=>by
    rcases p3 k hk with hk|hk
    ·exact .inl hk
    ·exact .inr (Nat.le_trans HBX.out.2.size hk))
  have hbc:=hR.blk.cell
  have hb1:=(hR.blk.G g1).cell
  have hb2:=(hR.blk.G g2).cell
  have hb3:=(hR.blk.G g3).cell
  have hz3:=(hR.blk.G g3).frozen
  have HA:=hide r1;have HB:=hide s1;have HC:=hide q1
  clear hcells
  clear r1 r2 s1 s2 q1 q2 p1 p2 p3 hap hR g1 g2 g3
  go_enter func28,ntmps28
  go_wp2_with (first|(at_builtin;refine wpList_append_run rfl _ _ 87 rfl _ _ rfl rfl HA.out ?_;refine Hid.out ?_)|fail)
  unfold Hid
  go_wp2_with (first|(at_builtin;refine wpList_append_run rfl _ _ 87 rfl _ _ rfl rfl HB.out ?_;refine Hid.out ?_)|fail)
  unfold Hid
  go_wp2_with (first|(at_builtin;refine wpList_append_run rfl _ _ 87 rfl _ _ rfl rfl HC.out ?_)|fail)
  go_ret
  exact⟨by first|(rw[←HEN.out];rfl)|rw[←HEN.out],HP.out⟩
end
section
open Go.RowKit
theorem enter_at_true{w:World}{b ga cap:Nat}{tx:List Tx}{hd aq:List Lk}{D:Nat→Prop}{vt vh:Value}{tv:List (Tx×Value)}(h:RV w b ⟨tx,hd,aq⟩ D vt vh (.slice (some ⟨ga,0,none⟩) aq.length cap) tv)(x lv:Int)(lb:ByteArray)(id c:Int)(hl:aq.length<400000000000)(hcap:aq.length≤cap):Calls prog 28 #[ptr b,.agg #[I x,I lv,.string lb,I id,I c,.bool true]] w fun e w'=>e=.returned (I (entN ⟨x,⟨lv,lb,id⟩,c,true⟩ aq:Int))∧Rst w D b ⟨tx,hd,entP ⟨x,⟨lv,lb,id⟩,c,true⟩ aq⟩ w':=by
 have H:=hide h
 have hbc0:=h.blk.cell
 have HBX:Hid (Blk (w.alloc (.cells #[I x,I lv,.string lb,I id,I c,.bool true] 73)) w.heap.size 73 [I x,I lv,.string lb,I id,I c,.bool true]∧G w (w.alloc (.cells #[I x,I lv,.string lb,I id,I c,.bool true] 73))):=⟨Blk.new w _ 73,(G.refl w).alloc _⟩
 have hc0:=HBX.out.1.cell
 have hR:=h.G HBX.out.2
 have hbb:=hR.blk.cell
 clear h hR
 go_enter func28,ntmps28
 go_wp2_with fail
 obtain⟨w1,hw1⟩:∃w1,w1=(w.alloc (.cells #[I x,I lv,.string lb,I id,I c,.bool true] 73)):=⟨_,rfl⟩
 rw[←hw1] at HBX⊢
 obtain⟨rb,hrb⟩:∃rb,rb=w.heap.size:=⟨_,rfl⟩
 have HRB:=hide hrb
 rw[←hrb] at HBX⊢
 clear hw1 hrb hc0 hbb hbc0
 go_loopw [5,6] (fun av iv wr=>∃k:Nat,k≤aq.length∧iv=I ((k:Int)-1)∧av=I (fromN (fun e:Lk=>decide (e.r=⟨lv,lb,id⟩)&&!e.up) aq k:Int)∧G w1 wr) (fun _ iv _=>(RowKit.intOf iv+1).toNat)
 case atStart=>exact⟨aq.length,Nat.le_refl _,by first|rfl|simp,by first|(rw[fromN_end];done)|(rw[fromN_end];rfl),G.refl _⟩
 case round=>
  obtain⟨k,hk,rfl,rfl,hgw⟩:=hrel
  have hR:=H.out.G (HBX.out.2.trans hgw)
  have hbc:=hR.blk.cell
  cases k with
  | zero=>
   have hi:¬((0:Int)≤((0:Nat):Int)-1):=by omega
   have ha:=fromN_le (fun e:Lk=>decide (e.r=⟨lv,lb,id⟩)&&!e.up) aq 0 (Nat.zero_le _)
   have HEN:Hid (fromN (fun e:Lk=>decide (e.r=⟨lv,lb,id⟩)&&!e.up) aq 0=entN ⟨x,⟨lv,lb,id⟩,c,true⟩ aq):=by
    rw[fromN_zero]
    simp[Hid,entN]
   obtain⟨a,hae⟩:∃a,a=fromN (fun e:Lk=>decide (e.r=⟨lv,lb,id⟩)&&!e.up) aq 0:=⟨_,rfl⟩
   rw[←hae] at ha HEN⊢
   clear hae
   have HBX:Hid (Blk wr rb 73 [I x,I lv,.string lb,I id,I c,.bool true]∧G w wr):=⟨HBX.out.1.G hgw,HBX.out.2.trans hgw⟩
   clear hgw hk
   have haI:(a:Int)≤(aq.length:Int):=by omega
   have haI2:(a:Int)≤(cap:Int):=by omega
   have hcI:(aq.length:Int)≤(cap:Int):=by omega
   have ha0:(0:Int)≤(a:Int):=by omega
   by_cases hcn:cap=a
   ·have hal:a=aq.length:=by omega
    subst hal
    subst hcn
    clear hcap
    have hcells:∀Z,G wr Z→∀j u,(lkc aq)[j]?=some u→Z.cell? ⟨ga,j,none⟩=some u:=fun Z hZ j u hj=>by
     have h2:=(hR.G hZ).ra
     have hjl:=(List.getElem?_eq_some_iff.1 hj).1
     rw[show(lkc aq).length=aq.length*6 from flat_len Lk.cs 6 lk_len aq] at hjl
     rw[h2.cellAt j hjl];exact hj
    obtain⟨v1,w1,r1,r2,r3,-⟩:=app_lk wr wr.heap.size (.slice none 0 0) [] (aq.take aq.length) ⟨rfl,.inl ⟨rfl,rfl⟩⟩ ⟨ga,0,none⟩ aq.length aq.length (by rw[List.length_take];omega) (fun j u hj=>by
     rw[Addr.add_mid,Nat.zero_add]
     refine hcells wr (G.refl _) j u ?_
     have e:=lkc_app (aq.take aq.length) (aq.drop aq.length)
     rw[List.take_append_drop] at e
     rw[e,List.getElem?_append_left (List.getElem?_eq_some_iff.1 hj).1];exact hj) (by rw[List.length_take,List.length_nil];omega) (Nat.le_refl _)
    have g1:G wr w1:=grown_G (G.refl _) r3 (fun k hk=>by cases hk)
    rw[List.nil_append] at r2
    obtain⟨x1,y1,hv1⟩:=row_form r2
    obtain⟨n1,hn1⟩:∃n1,n1=(aq.take aq.length).length:=⟨_,rfl⟩
    rw[←hn1] at hv1
    subst hv1
    clear hn1 r3
    have hqb1:=(HBX.out.1.G g1).cell
    obtain⟨v2,w2,s1,s2,s3,-⟩:=app_lk (w1.alloc (.cells #[I x,I lv,.string lb,I id,I c,.bool true] 73)) wr.heap.size (.slice x1 n1 y1) (aq.take aq.length) [⟨x,⟨lv,lb,id⟩,c,true⟩] (own_G r2 ((G.refl w1).alloc _)) ⟨w1.heap.size,0,none⟩ 1 1 rfl (fun j u hj=>by
     have:=(Blk.new w1 [I x,I lv,.string lb,I id,I c,.bool true] 73).cell j
     rw[Addr.add_mid,Nat.zero_add,this]
     exact hj) (by rw[List.length_take,List.length_singleton];omega) ((g1.alloc _).size)
    have g2:G wr w2:=grown_G (g1.alloc _) s3 (fun k hk=>(World.ownsRow.lt r2 k hk).1)
    obtain⟨x2,y2,hv2⟩:=row_form s2
    obtain⟨n2,hn2⟩:∃n2,n2=((aq.take aq.length)++[(⟨x,⟨lv,lb,id⟩,c,true⟩:Lk)]).length:=⟨_,rfl⟩
    rw[←hn2] at hv2
    subst hv2
    clear hn2 s3
    obtain⟨v3,w3,q1,q2,q3,-⟩:=app_lk w2 wr.heap.size (.slice x2 n2 y2) ((aq.take aq.length)++[⟨x,⟨lv,lb,id⟩,c,true⟩]) (aq.drop aq.length) s2 ⟨ga,0,none⟩ 0 0 (by rw[List.length_drop];try omega) (fun j u hj=>by
     rw[List.drop_of_length_le (Nat.le_refl _)] at hj;cases hj) (by rw[List.length_append,List.length_take,List.length_drop,List.length_singleton];omega) g2.size
    have g3:G wr w3:=grown_G g2 q3 (fun k hk=>(World.ownsRow.lt s2 k hk).1)
    obtain⟨x3,y3,hv3⟩:=row_form q2
    obtain⟨n3,hn3⟩:∃n3,n3=((aq.take aq.length)++[(⟨x,⟨lv,lb,id⟩,c,true⟩:Lk)]++aq.drop aq.length).length:=⟨_,rfl⟩
    rw[←hn3] at hv3
    subst hv3
    clear hn3 q3
    have hap:entP ⟨x,⟨lv,lb,id⟩,c,true⟩ aq=(aq.take aq.length)++[⟨x,⟨lv,lb,id⟩,c,true⟩]++aq.drop aq.length:=by
     unfold entP
     rw[←HEN.out,List.append_assoc];rfl
    obtain⟨p1,p2,p3⟩:=hR.putA g3.chg (own_lo q2 (Nat.zero_le _)) (fun k hk=>.inr (World.ownsRow.lt q2 k hk).1)
    have HP:Hid (Rst w D b ⟨tx,hd,entP ⟨x,⟨lv,lb,id⟩,c,true⟩ aq⟩ (w3.setCell ⟨b,2,none⟩ (.slice x3 n3 y3))):=by
     rw[hap]
     exact H.out.ends p1 (HBX.out.2.chg.trans p2) (fun k hk=>by
      rcases p3 k hk with hk|hk
      ·exact .inl hk
      ·exact .inr (Nat.le_trans HBX.out.2.size hk))
    have hbc:=hR.blk.cell
    have hb1:=(hR.blk.G g1).cell
    have hb2:=(hR.blk.G g2).cell
    have hb3:=(hR.blk.G g3).cell
    have hz3:=(hR.blk.G g3).frozen
    have HA:=hide r1;have HB:=hide s1;have HC:=hide q1
    clear hcells
    clear r1 r2 s1 s2 q1 q2 p1 p2 p3 hap hR g1 g2 g3
    go_wp2_with (first|(at_builtin;refine wpList_append_run rfl _ _ 87 rfl _ _ rfl rfl HA.out ?_;refine Hid.out ?_)|fail)
    unfold Hid
    go_wp2_with (first|(at_builtin;refine wpList_append_run rfl _ _ 87 rfl _ _ rfl rfl HB.out ?_;refine Hid.out ?_)|fail)
    unfold Hid
    go_wp2_with (first|(at_builtin;refine wpList_append_run rfl _ _ 87 rfl _ _ rfl rfl HC.out ?_)|fail)
    go_ret
    exact⟨by first|(rw[←HEN.out];rfl)|rw[←HEN.out],HP.out⟩
   ·have hcells:∀Z,G wr Z→∀j u,(lkc aq)[j]?=some u→Z.cell? ⟨ga,j,none⟩=some u:=fun Z hZ j u hj=>by
     have h2:=(hR.G hZ).ra
     have hjl:=(List.getElem?_eq_some_iff.1 hj).1
     rw[show(lkc aq).length=aq.length*6 from flat_len Lk.cs 6 lk_len aq] at hjl
     rw[h2.cellAt j hjl];exact hj
    obtain⟨v1,w1,r1,r2,r3,-⟩:=app_lk wr wr.heap.size (.slice none 0 0) [] (aq.take a) ⟨rfl,.inl ⟨rfl,rfl⟩⟩ ⟨ga,0,none⟩ a cap (by rw[List.length_take];omega) (fun j u hj=>by
     rw[Addr.add_mid,Nat.zero_add]
     refine hcells wr (G.refl _) j u ?_
     have e:=lkc_app (aq.take a) (aq.drop a)
     rw[List.take_append_drop] at e
     rw[e,List.getElem?_append_left (List.getElem?_eq_some_iff.1 hj).1];exact hj) (by rw[List.length_take,List.length_nil];omega) (Nat.le_refl _)
    have g1:G wr w1:=grown_G (G.refl _) r3 (fun k hk=>by cases hk)
    rw[List.nil_append] at r2
    obtain⟨x1,y1,hv1⟩:=row_form r2
    obtain⟨n1,hn1⟩:∃n1,n1=(aq.take a).length:=⟨_,rfl⟩
    rw[←hn1] at hv1
    subst hv1
    clear hn1 r3
    have hqb1:=(HBX.out.1.G g1).cell
    obtain⟨v2,w2,s1,s2,s3,-⟩:=app_lk (w1.alloc (.cells #[I x,I lv,.string lb,I id,I c,.bool true] 73)) wr.heap.size (.slice x1 n1 y1) (aq.take a) [⟨x,⟨lv,lb,id⟩,c,true⟩] (own_G r2 ((G.refl w1).alloc _)) ⟨w1.heap.size,0,none⟩ 1 1 rfl (fun j u hj=>by
     have:=(Blk.new w1 [I x,I lv,.string lb,I id,I c,.bool true] 73).cell j
     rw[Addr.add_mid,Nat.zero_add,this]
     exact hj) (by rw[List.length_take,List.length_singleton];omega) ((g1.alloc _).size)
    have g2:G wr w2:=grown_G (g1.alloc _) s3 (fun k hk=>(World.ownsRow.lt r2 k hk).1)
    obtain⟨x2,y2,hv2⟩:=row_form s2
    obtain⟨n2,hn2⟩:∃n2,n2=((aq.take a)++[(⟨x,⟨lv,lb,id⟩,c,true⟩:Lk)]).length:=⟨_,rfl⟩
    rw[←hn2] at hv2
    subst hv2
    clear hn2 s3
    obtain⟨v3,w3,q1,q2,q3,-⟩:=app_lk w2 wr.heap.size (.slice x2 n2 y2) ((aq.take a)++[⟨x,⟨lv,lb,id⟩,c,true⟩]) (aq.drop a) s2 ⟨ga,a*6,none⟩ (aq.length-a) (cap-a) (by rw[List.length_drop];try omega) (fun j u hj=>by
     rw[Addr.add_mid]
     refine hcells w2 g2 _ u ?_
     have e:=lkc_app (aq.take a) (aq.drop a)
     rw[List.take_append_drop] at e
     have hlt:(lkc (aq.take a)).length=a*6:=by
      rw[show(lkc (aq.take a)).length=(aq.take a).length*6 from flat_len Lk.cs 6 lk_len _,List.length_take,Nat.min_eq_left ha]
     rw[e,List.getElem?_append_right (by omega),hlt,Nat.add_sub_cancel_left];exact hj) (by rw[List.length_append,List.length_take,List.length_drop,List.length_singleton];omega) g2.size
    have g3:G wr w3:=grown_G g2 q3 (fun k hk=>(World.ownsRow.lt s2 k hk).1)
    obtain⟨x3,y3,hv3⟩:=row_form q2
    obtain⟨n3,hn3⟩:∃n3,n3=((aq.take a)++[(⟨x,⟨lv,lb,id⟩,c,true⟩:Lk)]++aq.drop a).length:=⟨_,rfl⟩
    rw[←hn3] at hv3
    subst hv3
    clear hn3 q3
    have hap:entP ⟨x,⟨lv,lb,id⟩,c,true⟩ aq=(aq.take a)++[⟨x,⟨lv,lb,id⟩,c,true⟩]++aq.drop a:=by
     unfold entP
     rw[←HEN.out,List.append_assoc];rfl
    obtain⟨p1,p2,p3⟩:=hR.putA g3.chg (own_lo q2 (Nat.zero_le _)) (fun k hk=>.inr (World.ownsRow.lt q2 k hk).1)
    have HP:Hid (Rst w D b ⟨tx,hd,entP ⟨x,⟨lv,lb,id⟩,c,true⟩ aq⟩ (w3.setCell ⟨b,2,none⟩ (.slice x3 n3 y3))):=by
     rw[hap]
     exact H.out.ends p1 (HBX.out.2.chg.trans p2) (fun k hk=>by
      rcases p3 k hk with hk|hk
      ·exact .inl hk
      ·exact .inr (Nat.le_trans HBX.out.2.size hk))
    have hbc:=hR.blk.cell
    have hb1:=(hR.blk.G g1).cell
    have hb2:=(hR.blk.G g2).cell
    have hb3:=(hR.blk.G g3).cell
    have hz3:=(hR.blk.G g3).frozen
    have HA:=hide r1;have HB:=hide s1;have HC:=hide q1
    clear hcells
    clear r1 r2 s1 s2 q1 q2 p1 p2 p3 hap hR g1 g2 g3
    go_wp2_with (first|(at_builtin;refine wpList_append_run rfl _ _ 87 rfl _ _ rfl rfl HA.out ?_;refine Hid.out ?_)|fail)
    unfold Hid
    go_wp2_with (first|(at_builtin;refine wpList_append_run rfl _ _ 87 rfl _ _ rfl rfl HB.out ?_;refine Hid.out ?_)|fail)
    unfold Hid
    go_wp2_with (first|(at_builtin;refine wpList_append_run rfl _ _ 87 rfl _ _ rfl rfl HC.out ?_)|fail)
    go_ret
    exact⟨by first|(rw[←HEN.out];rfl)|rw[←HEN.out],HP.out⟩
  | succ j=>
   have hlt:j<aq.length:=by omega
   obtain⟨⟨ex,⟨el,eb,ei⟩,ec,eu⟩,he⟩:∃a,aq[j]?=some a:=⟨_,List.getElem?_eq_getElem hlt⟩
   obtain⟨gb,hgb,kc⟩:=row_cell lk_len hR.ra he
   have eg:ga=gb:=by simpa using hgb
   subst eg
   have ej:((j+1:Nat):Int)-1=(j:Int):=by omega
   rw[ej]
   have q1:wr.cell? ⟨ga,j*6+1,none⟩=some (I el):=kc 1 (by omega)
   have q2:wr.cell? ⟨ga,j*6+1+1,none⟩=some (.string eb):=kc 2 (by omega)
   have q3:wr.cell? ⟨ga,j*6+1+2,none⟩=some (I ei):=kc 3 (by omega)
   have q5:wr.cell? ⟨ga,j*6+5,none⟩=some (.bool eu):=kc 5 (by omega)
   have q4:=(HBX.out.1.G hgw).cell
   have hjI:(j:Int)<(aq.length:Int):=by omega
   have hj0:(0:Int)≤(j:Int):=by omega
   have hwn:wrap64 ((j:Int)-1)=(j:Int)-1:=by unfold wrap64;omega
   have HMS:Hid (((j:Int)-1+1).toNat<((j:Int)+1).toNat):=by show _<_;omega
   have HWN:=hide hwn;have HLT:Hid (j≤aq.length):=by show _≤_;omega
   have HGW:=hide hgw;have HE:=hide he
   have q6:=hj0
   clear hk hlt he hwn kc hgw hR hgb ej
   by_cases f1:el=lv
   ·subst f1
    by_cases f2:eb=lb
    ·subst f2
     by_cases f3:ei=id
     ·subst f3
      cases eu with
      | false=>
       have HST:=hide (fromN_yes (p:=(fun e:Lk=>decide (e.r=⟨el,eb,ei⟩)&&!e.up)) HE.out (by simp))
       go_wp2_with fail
       go_quiet (fail)
       generalize hV:World.drewN wr _=V
       have HGV:Hid (G wr V):=by rw[←hV];exact(G.refl wr).drewN _
       clear hV hbc q1 q2 q3 q4 q5 q6
       go_wp2_with fail
       exact⟨⟨j,HLT.out,by first|rfl|rw[HWN.out],by rw[HST.out],HGW.out.trans HGV.out⟩,by first|exact HMS.out|(rw[HWN.out];exact HMS.out)⟩
      | true=>
       have HST:=hide (fromN_no (p:=(fun e:Lk=>decide (e.r=⟨el,eb,ei⟩)&&!e.up)) HE.out (by simp))
       go_wp2_with fail
       go_quiet (fail)
       generalize hV:World.drewN wr _=V
       have HGV:Hid (G wr V):=by rw[←hV];exact(G.refl wr).drewN _
       clear hV hbc q1 q2 q3 q4 q5 q6
       go_wp2_with fail
       exact⟨⟨j,HLT.out,by first|rfl|rw[HWN.out],by rw[HST.out],HGW.out.trans HGV.out⟩,by first|exact HMS.out|(rw[HWN.out];exact HMS.out)⟩
     ·have d4:(ei==id)=false:=by simp[f3]
      have d5:decide (ei=id)=false:=by simp[f3]
      have HST:=hide (fromN_no (p:=(fun e:Lk=>decide (e.r=⟨el,eb,id⟩)&&!e.up)) HE.out (by simp[f3]))
      go_wp2_with fail
      go_quiet (fail)
      generalize hV:World.drewN wr _=V
      have HGV:Hid (G wr V):=by rw[←hV];exact(G.refl wr).drewN _
      clear hV hbc q1 q2 q3 q4 q5 q6
      go_wp2_with fail
      exact⟨⟨j,HLT.out,by first|rfl|rw[HWN.out],by rw[HST.out],HGW.out.trans HGV.out⟩,by first|exact HMS.out|(rw[HWN.out];exact HMS.out)⟩
    ·have d4:¬eb.toList=lb.toList:=fun q=>f2 (toList_inj q)
     have HST:=hide (fromN_no (p:=(fun e:Lk=>decide (e.r=⟨el,lb,id⟩)&&!e.up)) HE.out (by simp[f2]))
     go_wp2_with fail
     go_quiet (fail)
     generalize hV:World.drewN wr _=V
     have HGV:Hid (G wr V):=by rw[←hV];exact(G.refl wr).drewN _
     clear hV hbc q1 q2 q3 q4 q5 q6
     go_wp2_with fail
     exact⟨⟨j,HLT.out,by first|rfl|rw[HWN.out],by rw[HST.out],HGW.out.trans HGV.out⟩,by first|exact HMS.out|(rw[HWN.out];exact HMS.out)⟩
   ·have d4:(el==lv)=false:=by simp[f1]
    have d5:decide (el=lv)=false:=by simp[f1]
    have HST:=hide (fromN_no (p:=(fun e:Lk=>decide (e.r=⟨lv,lb,id⟩)&&!e.up)) HE.out (by simp[f1]))
    go_wp2_with fail
    go_quiet (fail)
    generalize hV:World.drewN wr _=V
    have HGV:Hid (G wr V):=by rw[←hV];exact(G.refl wr).drewN _
    clear hV hbc q1 q2 q3 q4 q5 q6
    go_wp2_with fail
    exact⟨⟨j,HLT.out,by first|rfl|rw[HWN.out],by rw[HST.out],HGW.out.trans HGV.out⟩,by first|exact HMS.out|(rw[HWN.out];exact HMS.out)⟩
end
section
open Go.RowKit
structure TXq(tx:List Tx)(lv:Int→Option Pm):Prop where
 nd:(tx.map Tx.x).Nodup
 all:∀x p,lv x=some p→∃e∈tx,e.x=x
 ok:∀e∈tx,∃p,lv e.x=some p∧p.stamp=e.st∧e.ws.Pairwise (·<·)∧∀z,z∈e.ws↔p.wd z=true
structure RM(R:Rt)(m:Ms):Prop where
 tx:TXq R.tx m.lv
 hq:HQ R.hd R.aq m.hl m.qs
def wndE(id:Int)(e:Tx):Tx:=⟨e.x,e.st,insP id e.ws⟩
def wnd1(st id:Int)(s:List Tx×List Int)(y:Int):List Tx×List Int:=match s.1.findIdx? (fun e=>e.x==y)with
 | none=>s
 | some u=>match s.1[u]? with
  | none=>s
  | some e=>if e.st≤st then s else(s.1.set u (wndE id e),if e.ws=[] then insP y s.2 else s.2)
def wndL(st id:Int)(s:List Tx×List Int)(ys:List Int):List Tx×List Int:=ys.foldl (wnd1 st id) s
theorem wndL_snoc(st id:Int)(s:List Tx×List Int)(ys:List Int)(y:Int):wndL st id s (ys++[y])=wnd1 st id (wndL st id s ys) y:=by
 unfold wndL
 rw[List.foldl_append];rfl
theorem tx_uniq{tx:List Tx}(nd:(tx.map Tx.x).Nodup){e e':Tx}(h:e∈tx)(h':e'∈tx)(hx:e.x=e'.x):e=e':=by
 obtain⟨i,hi⟩:=List.mem_iff_getElem?.1 h
 obtain⟨j,hj⟩:=List.mem_iff_getElem?.1 h'
 have q1:(tx.map Tx.x)[i]?=some e.x:=by rw[List.getElem?_map,hi];rfl
 have q2:(tx.map Tx.x)[j]?=some e.x:=by rw[List.getElem?_map,hj,hx];rfl
 obtain⟨l1,k1⟩:=List.getElem?_eq_some_iff.1 q1
 obtain⟨l2,k2⟩:=List.getElem?_eq_some_iff.1 q2
 have:=(List.getElem_inj (h₀:=l1) (h₁:=l2) nd).1 (k1.trans k2.symm)
 subst this
 rw[hi] at hj
 exact Option.some.inj hj
theorem wnd1_at{st id y:Int}{tx:List Tx}{out:List Int}{u:Nat}{e:Tx}(hu:tx[u]?=some e)(he:e.x=y)(hf:∀j b,j<u→tx[j]?=some b→b.x≠y):wnd1 st id (tx,out) y=if e.st≤st then(tx,out)else(tx.set u (wndE id e),if e.ws=[] then insP y out else out):=by
 have:tx.findIdx? (fun e=>e.x==y)=some u:=by
  rw[List.findIdx?_eq_some_iff_getElem]
  obtain⟨h1,h2⟩:=List.getElem?_eq_some_iff.1 hu
  refine⟨h1,by rw[h2];simp[he],fun j hj=>?_⟩
  have:=hf j _ hj (List.getElem?_eq_getElem (by omega))
  simpa using this
 unfold wnd1
 simp only[this,hu]
theorem wnd1_map{st id y:Int}{tx:List Tx}{out:List Int}(nd:(tx.map Tx.x).Nodup){e:Tx}(hm:e∈tx)(he:e.x=y):wnd1 st id (tx,out) y=(tx.map (fun e=>if e.x=y∧st<e.st then wndE id e else e),if st<e.st∧e.ws=[] then insP y out else out):=by
 obtain⟨u,hu⟩:=List.mem_iff_getElem?.1 hm
 have key:∀j b,tx[j]?=some b→b.x=y→j=u:=fun j b hj hb=>by
  have q1:(tx.map Tx.x)[j]?=some y:=by rw[List.getElem?_map,hj];simp[hb]
  have q2:(tx.map Tx.x)[u]?=some y:=by rw[List.getElem?_map,hu];simp[he]
  obtain⟨l1,k1⟩:=List.getElem?_eq_some_iff.1 q1
  obtain⟨l2,k2⟩:=List.getElem?_eq_some_iff.1 q2
  exact(List.getElem_inj (h₀:=l1) (h₁:=l2) nd).1 (k1.trans k2.symm)
 rw[wnd1_at hu he (fun j b hj hb hx=>by have:=key j b hb hx;omega)]
 by_cases hle:e.st≤st
 ·rw[if_pos hle,if_neg (fun h=>by omega)]
  congr 1
  have:∀a∈tx,(if a.x=y∧st<a.st then wndE id a else a)=a:=fun a ha=>if_neg (fun h=>by
   have:=tx_uniq nd ha hm (h.1.trans he.symm)
   subst this
   omega)
  rw[List.map_congr_left this,List.map_id']
 ·rw[if_neg hle]
  have hlt:st<e.st:=by omega
  congr 1
  ·apply List.ext_getElem?
   intro j
   rw[List.getElem?_set,List.getElem?_map]
   by_cases hj:u=j
   ·subst hj
    rw[if_pos rfl,if_pos (List.getElem?_eq_some_iff.1 hu).1,hu]
    simp[he,hlt]
   ·rw[if_neg hj]
    cases hb:tx[j]? with
    | none=>rfl
    | some b=>
     have hne:¬(b.x=y∧st<b.st):=fun h=>hj (key j b hb h.1).symm
     simp[hne]
  ·by_cases hw:e.ws=[]
   ·rw[if_pos hw,if_pos ⟨hlt,hw⟩]
   ·rw[if_neg hw,if_neg (fun h=>hw h.2)]
theorem map_x{f:Tx→Tx}(hf:∀e,(f e).x=e.x)(tx:List Tx):(tx.map f).map Tx.x=tx.map Tx.x:=by
 rw[List.map_map]
 exact List.map_congr_left (fun a _=>hf a)
theorem wndL_map{st id:Int}{tx:List Tx}(nd:(tx.map Tx.x).Nodup){out:List Int}(hout:out.Pairwise (·<·)):∀(ys:List Int),ys.Nodup→(∀y∈ys,∃e∈tx,e.x=y)→
  (wndL st id (tx,out) ys).1=tx.map (fun e=>if e.x∈ys∧st<e.st then wndE id e else e)∧(wndL st id (tx,out) ys).2.Pairwise (·<·)∧
  (∀y,y∈(wndL st id (tx,out) ys).2↔y∈out∨(y∈ys∧∃e∈tx,e.x=y∧st<e.st∧e.ws=[])):=by
 intro ys
 refine snoc_ind (P:=fun ys=>ys.Nodup→(∀y∈ys,∃e∈tx,e.x=y)→(wndL st id (tx,out) ys).1=tx.map (fun e=>if e.x∈ys∧st<e.st then wndE id e else e)∧(wndL st id (tx,out) ys).2.Pairwise (·<·)∧
  (∀y,y∈(wndL st id (tx,out) ys).2↔y∈out∨(y∈ys∧∃e∈tx,e.x=y∧st<e.st∧e.ws=[]))) ?_ (fun l y ih=>?_) ys
 ·intro _ _
  refine⟨?_,hout,fun y=>?_⟩
  ·show tx=_
   have:∀a∈tx,(if a.x∈([]:List Int)∧st<a.st then wndE id a else a)=a:=fun a _=>if_neg (fun h=>by cases h.1)
   rw[List.map_congr_left this,List.map_id']
  ·show y∈out↔_
   simp
 ·intro hn hp
  rw[List.nodup_append] at hn
  obtain⟨n1,-,n3⟩:=hn
  have hyl:y∉l:=fun h=>n3 y h y (List.mem_singleton.2 rfl) rfl
  obtain⟨i1,i2,i3⟩:=ih n1 (fun z hz=>hp z (List.mem_append_left _ hz))
  obtain⟨e,he,hex⟩:=hp y (List.mem_append_right _ (List.mem_singleton.2 rfl))
  have hfe:(if e.x∈l∧st<e.st then wndE id e else e)=e:=if_neg (fun h=>hyl (by rw[←hex];exact h.1))
  have nd2:(((wndL st id (tx,out) l).1).map Tx.x).Nodup:=by
   rw[i1,map_x (fun e=>by split<;>rfl)]
   exact nd
  have hm2:e∈(wndL st id (tx,out) l).1:=by
   rw[i1]
   exact List.mem_map.2 ⟨e,he,hfe⟩
  rw[wndL_snoc]
  have hst:=wnd1_map (st:=st) (id:=id) (out:=(wndL st id (tx,out) l).2) nd2 hm2 hex
  rw[show((wndL st id (tx,out) l).1,(wndL st id (tx,out) l).2)=wndL st id (tx,out) l from rfl] at hst
  rw[hst]
  refine⟨?_,?_,fun z=>?_⟩
  ·show((wndL st id (tx,out) l).1).map _=_
   rw[i1,List.map_map]
   refine List.map_congr_left (fun a ha=>?_)
   show(if (if a.x∈l∧st<a.st then wndE id a else a).x=y∧st<(if a.x∈l∧st<a.st then wndE id a else a).st then wndE id (if a.x∈l∧st<a.st then wndE id a else a)else(if a.x∈l∧st<a.st then wndE id a else a))=_
   by_cases h1:a.x∈l∧st<a.st
   ·rw[if_pos h1,if_neg (show¬((wndE id a).x=y∧st<(wndE id a).st)from fun h=>hyl (by rw[←show(wndE id a).x=y from h.1];exact h1.1)),if_pos ⟨List.mem_append_left _ h1.1,h1.2⟩]
   ·rw[if_neg h1]
    by_cases h2:a.x=y∧st<a.st
    ·rw[if_pos h2,if_pos ⟨List.mem_append_right _ (by rw[h2.1];exact List.mem_singleton.2 rfl),h2.2⟩]
    ·rw[if_neg h2,if_neg (fun h=>by
      rcases List.mem_append.1 h.1 with h3|h3
      ·exact h1 ⟨h3,h.2⟩
      ·exact h2 ⟨by simpa using h3,h.2⟩)]
  ·show(if st<e.st∧e.ws=[] then insP y (wndL st id (tx,out) l).2 else(wndL st id (tx,out) l).2).Pairwise _
   split
   ·exact insP_up i2
   ·exact i2
  ·show z∈(if st<e.st∧e.ws=[] then insP y (wndL st id (tx,out) l).2 else(wndL st id (tx,out) l).2)↔_
   have hun:∀a∈tx,a.x=y→a=e:=fun a ha hax=>tx_uniq nd ha he (hax.trans hex.symm)
   by_cases h1:st<e.st∧e.ws=[]
   ·rw[if_pos h1,insP_mem,i3]
    constructor
    ·rintro(rfl|h|⟨h,h2⟩)
     ·exact .inr ⟨List.mem_append_right _ (List.mem_singleton.2 rfl),e,he,hex,h1⟩
     ·exact .inl h
     ·exact .inr ⟨List.mem_append_left _ h,h2⟩
    ·rintro(h|⟨h,h2⟩)
     ·exact .inr (.inl h)
     ·rcases List.mem_append.1 h with h|h
      ·exact .inr (.inr ⟨h,h2⟩)
      ·exact .inl (by simpa using h)
   ·rw[if_neg h1,i3]
    constructor
    ·rintro(h|⟨h,h2⟩)
     ·exact .inl h
     ·exact .inr ⟨List.mem_append_left _ h,h2⟩
    ·rintro(h|⟨h,a,ha,hax,h2⟩)
     ·exact .inl h
     ·rcases List.mem_append.1 h with h|h
      ·exact .inr ⟨h,a,ha,hax,h2⟩
      ·have hzy:z=y:=by simpa using h
       have:=hun a ha (hax.trans hzy)
       subst this
       exact absurd h2 h1
structure Swp(m m':Ms):Prop where
 lv:∀y p,m.lv y=some p→∃p',m'.lv y=some p'∧p'.stamp=p.stamp∧∀z,p.wd z=true→p'.wd z=true
 st:∀x y p p',m.lv x=some p→m.lv y=some p'→p.stamp=p'.stamp→x=y
 qn:∀r,((m'.qs r).map Prod.fst).Nodup
 s1:∀x p,m.lv x=some p→1≤p.stamp
 wy:∀r i x g y,(m'.qs r)[i]?=some (x,g)→inW (m'.hl r) (m'.qs r) x g i y→∃p,m.lv y=some p
 jw:∀r i x g p,(m'.qs r)[i]?=some (x,g)→m'.lv x=some p→p.hurt=false→∀y p',inW (m'.hl r) (m'.qs r) x g i y→m'.lv y=some p'→p.stamp<p'.stamp→p'.wd x=true
 one:∀(r:Rs) (i:Nat) (x g:Int) (r':Rs) (i':Nat) (g':Int),(m'.qs r)[i]?=some (x,g)→(m'.qs r')[i']?=some (x,g')→r=r'
 new:∀y p p' z,m.lv y=some p→m'.lv y=some p'→p'.wd z=true→p.wd z=false→∃pz pz' r i g,m.lv z=some pz∧m'.lv z=some pz'∧pz.stamp<p.stamp∧pz'.hurt=false∧(m'.qs r)[i]?=some (z,g)∧inW (m'.hl r) (m'.qs r) z g i y
structure SJ(m m':Ms)(tx0:List Tx)(last:Int)(TX:List Tx)(OUT:List Int):Prop where
 ids:TX.map (fun e=>(e.x,e.st))=tx0.map (fun e=>(e.x,e.st))
 ok:∀e∈TX,∃p p',m.lv e.x=some p∧m'.lv e.x=some p'∧p.stamp=e.st∧e.ws.Pairwise (·<·)∧∀z,z∈e.ws↔p.wd z=true∨(p'.wd z=true∧∃pz,m.lv z=some pz∧pz.stamp≤last)
 up:OUT.Pairwise (·<·)
 out:∀y,y∈OUT↔∃p p' z pz,m.lv y=some p∧m'.lv y=some p'∧p.hurt=false∧p'.wd z=true∧m.lv z=some pz∧pz.stamp≤last
section
variable {m m':Ms} {tx0 TX:List Tx} {last:Int} {OUT:List Int}
theorem ids_x{a b:List Tx}(h:a.map (fun e=>(e.x,e.st))=b.map (fun e=>(e.x,e.st))):a.map Tx.x=b.map Tx.x:=by
 have:=congrArg (List.map Prod.fst) h
 rw[List.map_map,List.map_map] at this
 exact this
theorem SJ.start(hs:Swp m m')(h:TXq tx0 m.lv):SJ m m' tx0 0 tx0 []:=by
 refine⟨rfl,fun e he=>?_,List.Pairwise.nil,fun y=>⟨fun h=>(by cases h),?_⟩⟩
 ·obtain⟨p,h1,h2,h3,h4⟩:=h.ok e he
  obtain⟨p',h5,-,-⟩:=hs.lv _ p h1
  refine⟨p,p',h1,h5,h2,h3,fun z=>?_⟩
  rw[h4]
  refine⟨.inl,?_⟩
  rintro(h|⟨-,pz,h6,h7⟩)
  ·exact h
  ·have:=hs.s1 z pz h6;omega
 ·rintro⟨p,p',z,pz,-,-,-,-,h6,h7⟩
  have:=hs.s1 z pz h6;omega
theorem SJ.nd(h:SJ m m' tx0 last TX OUT)(n0:(tx0.map Tx.x).Nodup):(TX.map Tx.x).Nodup:=by rw[ids_x h.ids];exact n0
theorem SJ.skip(hs:Swp m m')(h:SJ m m' tx0 last TX OUT){e:Tx}(he:e∈TX)(hlt:last<e.st)(hmin:∀a∈TX,last<a.st→e.st≤a.st)(hall:∀x p,m.lv x=some p→∃a∈TX,a.x=x)
  (hno:(∀(r:Rs) (i:Nat) (g:Int),(m'.qs r)[i]?≠some (e.x,g))∨e.ws≠[]):SJ m m' tx0 e.st TX OUT:=by
 obtain⟨p,p',h1,h2,h3,h4,h5⟩:=h.ok e he
 have hle:∀z pz,m.lv z=some pz→(pz.stamp≤e.st↔pz.stamp≤last∨z=e.x):=fun z pz hz=>by
  constructor
  ·intro hh
   obtain⟨a,ha,hax⟩:=hall z pz hz
   obtain⟨q,q',k1,-,k3,-⟩:=h.ok a ha
   rw[hax,hz] at k1
   cases k1
   by_cases hl:pz.stamp≤last
   ·exact .inl hl
   ·have:=hmin a ha (by omega)
    exact .inr (hs.st z e.x pz p hz h1 (by omega))
  ·rintro(hh|rfl)
   ·omega
   ·rw[h1] at hz;cases hz;omega
 have hnone:∀y q q',m.lv y=some q→m'.lv y=some q'→q'.wd e.x=true→q.wd e.x=true:=fun y q q' k1 k2 k3=>by
  cases k4:q.wd e.x with
  | true=>rfl
  | false=>
   obtain⟨pz,pz',r,i,g,l1,l2,-,l4,l5,-⟩:=hs.new y q q' e.x k1 k2 k3 k4
   rcases hno with hno|hno
   ·exact absurd l5 (hno r i g)
   ·obtain⟨z,hz⟩:=List.exists_mem_of_ne_nil _ hno
    rw[h2] at l2
    cases l2
    have hw:=Pm.hurt_no.1 l4 z
    rcases(h5 z).1 hz with hz|⟨hz,-⟩
    ·obtain⟨p2,m1,-,m3⟩:=hs.lv _ p h1
     rw[h2] at m1
     cases m1
     rw[m3 z hz] at hw;cases hw
    ·rw[hz] at hw;cases hw
 refine⟨h.ids,fun a ha=>?_,h.up,fun y=>?_⟩
 ·obtain⟨q,q',k1,k2,k3,k4,k5⟩:=h.ok a ha
  refine⟨q,q',k1,k2,k3,k4,fun z=>?_⟩
  rw[k5]
  constructor
  ·rintro(hh|⟨hh,pz,l1,l2⟩)
   ·exact .inl hh
   ·exact .inr ⟨hh,pz,l1,(hle z pz l1).2 (.inl l2)⟩
  ·rintro(hh|⟨hh,pz,l1,l2⟩)
   ·exact .inl hh
   ·rcases(hle z pz l1).1 l2 with l2|rfl
    ·exact .inr ⟨hh,pz,l1,l2⟩
    ·exact .inl (hnone _ q q' k1 k2 hh)
 ·rw[h.out]
  constructor
  ·rintro⟨q,q',z,pz,k1,k2,k3,k4,k5,k6⟩
   exact⟨q,q',z,pz,k1,k2,k3,k4,k5,(hle z pz k5).2 (.inl k6)⟩
  ·rintro⟨q,q',z,pz,k1,k2,k3,k4,k5,k6⟩
   rcases(hle z pz k5).1 k6 with k6|rfl
   ·exact⟨q,q',z,pz,k1,k2,k3,k4,k5,k6⟩
   ·have:=hnone _ q q' k1 k2 k4
    rw[Pm.hurt_no.1 k3] at this
    cases this
theorem SJ.hits(hs:Swp m m')(h:SJ m m' tx0 last TX OUT){e:Tx}(he:e∈TX)(hlt:last<e.st)(hmin:∀a∈TX,last<a.st→e.st≤a.st)(hall:∀x p,m.lv x=some p→∃a∈TX,a.x=x)(nd:(TX.map Tx.x).Nodup)
  {r:Rs} {i:Nat} {g:Int} (hq:(m'.qs r)[i]?=some (e.x,g)) (hw0:e.ws=[]) {ys:List Int} (hys:ys.Nodup) (hyw:∀y,y∈ys↔inW (m'.hl r) (m'.qs r) e.x g i y) :
  SJ m m' tx0 e.st (wndL e.st e.x (TX,OUT) ys).1 (wndL e.st e.x (TX,OUT) ys).2:=by
 obtain⟨p,p',h1,h2,h3,h4,h5⟩:=h.ok e he
 have hle:∀z pz,m.lv z=some pz→(pz.stamp≤e.st↔pz.stamp≤last∨z=e.x):=fun z pz hz=>by
  constructor
  ·intro hh
   obtain⟨a,ha,hax⟩:=hall z pz hz
   obtain⟨q,q',k1,-,k3,-⟩:=h.ok a ha
   rw[hax,hz] at k1
   cases k1
   by_cases hl:pz.stamp≤last
   ·exact .inl hl
   ·have:=hmin a ha (by omega)
    exact .inr (hs.st z e.x pz p hz h1 (by omega))
  ·rintro(hh|rfl)
   ·omega
   ·rw[h1] at hz;cases hz;omega
 have hun:p'.hurt=false:=Pm.hurt_no.2 (fun z=>by
  cases hz:p'.wd z with
  | false=>rfl
  | true=>
   exfalso
   have hnz:z∉e.ws:=by rw[hw0];exact List.not_mem_nil
   refine hnz ((h5 z).2 ?_)
   cases hz2:p.wd z with
   | true=>exact .inl rfl
   | false=>
    obtain⟨pz,-,-,-,-,l1,-,l3,-⟩:=hs.new _ p p' z h1 h2 hz hz2
    refine .inr ⟨hz,pz,l1,?_⟩
    rcases(hle z pz l1).1 (by omega)with hh|rfl
    ·exact hh
    ·rw[h1] at l1;cases l1;omega)
 -- who is wounded by it in the end
 have hby:∀y q q',m.lv y=some q→m'.lv y=some q'→(q'.wd e.x=true↔q.wd e.x=true∨(y∈ys∧e.st<q.stamp)):=fun y q q' k1 k2=>by
  obtain⟨q2,m1,m2,m3⟩:=hs.lv y q k1
  rw[k2] at m1
  cases m1
  obtain⟨p2,n1,n2,-⟩:=hs.lv _ p h1
  rw[h2] at n1
  cases n1
  constructor
  ·intro hh
   cases k4:q.wd e.x with
   | true=>exact .inl rfl
   | false=>
    obtain⟨pz,pz',r',i',g',l1,l2,l3,l4,l5,l6⟩:=hs.new y q q' e.x k1 k2 hh k4
    rw[h1] at l1
    cases l1
    have er:=hs.one _ _ _ _ _ _ _ hq l5
    subst er
    have ei:=nodup_at (hs.qn r) hq l5
    subst ei
    rw[hq] at l5
    cases l5
    exact .inr ⟨(hyw y).2 l6,by omega⟩
  ·rintro(hh|⟨hh,hl⟩)
   ·exact m3 _ hh
   ·exact hs.jw r i e.x g p' hq h2 hun y q' ((hyw y).1 hh) k2 (by omega)
 have hpl:∀y∈ys,∃a∈TX,a.x=y:=fun y hy=>by
  obtain⟨q,hq2⟩:=hs.wy r i e.x g y hq ((hyw y).1 hy)
  exact hall y q hq2
 obtain⟨w1,w2,w3⟩:=wndL_map (st:=e.st) (id:=e.x) nd h.up ys hys hpl
 refine⟨?_,fun a ha=>?_,w2,fun y=>?_⟩
 ·rw[w1,List.map_map,←h.ids]
  exact List.map_congr_left (fun a _=>by
   show((if a.x∈ys∧e.st<a.st then wndE e.x a else a).x,(if a.x∈ys∧e.st<a.st then wndE e.x a else a).st)=_
   split<;>rfl)
 ·rw[w1] at ha
  obtain⟨a0,ha0,rfl⟩:=List.mem_map.1 ha
  obtain⟨q,q',k1,k2,k3,k4,k5⟩:=h.ok a0 ha0
  have hb:=hby _ q q' k1 k2
  by_cases hc:a0.x∈ys∧e.st<a0.st
  ·rw[if_pos hc]
   refine⟨q,q',k1,k2,k3,insP_up k4,fun z=>?_⟩
   show z∈insP e.x a0.ws↔_
   rw[insP_mem,k5]
   constructor
   ·rintro(rfl|hh|⟨hh,pz,l1,l2⟩)
    ·exact .inr ⟨hb.2 (.inr ⟨hc.1,by omega⟩),p,h1,by omega⟩
    ·exact .inl hh
    ·exact .inr ⟨hh,pz,l1,(hle z pz l1).2 (.inl l2)⟩
   ·rintro(hh|⟨hh,pz,l1,l2⟩)
    ·exact .inr (.inl hh)
    ·rcases(hle z pz l1).1 l2 with l2|l2
     ·exact .inr (.inr ⟨hh,pz,l1,l2⟩)
     ·exact .inl l2
  ·rw[if_neg hc]
   refine⟨q,q',k1,k2,k3,k4,fun z=>?_⟩
   rw[k5]
   constructor
   ·rintro(hh|⟨hh,pz,l1,l2⟩)
    ·exact .inl hh
    ·exact .inr ⟨hh,pz,l1,(hle z pz l1).2 (.inl l2)⟩
   ·rintro(hh|⟨hh,pz,l1,l2⟩)
    ·exact .inl hh
    ·rcases(hle z pz l1).1 l2 with l2|rfl
     ·exact .inr ⟨hh,pz,l1,l2⟩
     ·rcases hb.1 hh with hh|⟨k6,k7⟩
      ·exact .inl hh
      ·exact absurd ⟨k6,by omega⟩ hc
 ·rw[w3,h.out]
  constructor
  ·rintro(⟨q,q',z,pz,k1,k2,k3,k4,k5,k6⟩|⟨hy,a,ha,rfl,hl,hw⟩)
   ·exact⟨q,q',z,pz,k1,k2,k3,k4,k5,(hle z pz k5).2 (.inl k6)⟩
   ·obtain⟨q,q',k1,k2,k3,k4,k5⟩:=h.ok a ha
    refine⟨q,q',e.x,p,k1,k2,Pm.hurt_no.2 (fun z=>?_),(hby _ q q' k1 k2).2 (.inr ⟨hy,by omega⟩),h1,by omega⟩
    cases hz:q.wd z with
    | false=>rfl
    | true=>
     have:=(k5 z).2 (.inl hz)
     rw[hw] at this
     cases this
  ·rintro⟨q,q',z,pz,k1,k2,k3,k4,k5,k6⟩
   rcases(hle z pz k5).1 k6 with k6|rfl
   ·exact .inl ⟨q,q',z,pz,k1,k2,k3,k4,k5,k6⟩
   ·rcases(hby y q q' k1 k2).1 k4 with hh|⟨hy,hl⟩
    ·rw[Pm.hurt_no.1 k3] at hh;cases hh
    ·obtain⟨a,ha,rfl⟩:=hall y q k1
     obtain⟨q2,q2',l1,l2,l3,l4,l5⟩:=h.ok a ha
     rw[k1] at l1
     cases l1
     rw[k2] at l2
     cases l2
     by_cases hw:a.ws=[]
     ·exact .inr ⟨hy,a,ha,rfl,by omega,hw⟩
     ·obtain⟨z,hz⟩:=List.exists_mem_of_ne_nil _ hw
      rcases(l5 z).1 hz with hh|⟨hh,pz2,m1,m2⟩
      ·rw[Pm.hurt_no.1 k3] at hh;cases hh
      ·exact .inl ⟨q,q',z,pz2,k1,k2,k3,hh,m1,m2⟩
theorem SJ.fin(hs:Swp m m')(h:SJ m m' tx0 last TX OUT)(h0:TXq tx0 m.lv)(hmax:∀a∈TX,¬last<a.st)(hall:∀x p,m.lv x=some p→∃a∈TX,a.x=x)(hback:∀x p,m'.lv x=some p→∃q,m.lv x=some q) :
  TXq TX m'.lv∧OUT.Pairwise (·<·)∧∀y,y∈OUT↔Newly m m' y:=by
 have hle:∀z pz,m.lv z=some pz→pz.stamp≤last:=fun z pz hz=>by
  obtain⟨a,ha,rfl⟩:=hall z pz hz
  obtain⟨q,q',k1,-,k3,-⟩:=h.ok a ha
  rw[hz] at k1
  cases k1
  have:=hmax a ha
  omega
 refine⟨⟨h.nd h0.nd,fun x p hp=>?_,fun e he=>?_⟩,h.up,fun y=>?_⟩
 ·obtain⟨q,hq⟩:=hback x p hp
  exact hall x q hq
 ·obtain⟨p,p',h1,h2,h3,h4,h5⟩:=h.ok e he
  obtain⟨p2,k1,k2,k3⟩:=hs.lv _ p h1
  rw[h2] at k1
  cases k1
  refine⟨p',h2,by omega,h4,fun z=>?_⟩
  rw[h5]
  constructor
  ·rintro(hh|⟨hh,-⟩)
   ·exact k3 z hh
   ·exact hh
  ·intro hh
   cases hz:p.wd z with
   | true=>exact .inl rfl
   | false=>
    obtain⟨pz,-,-,-,-,l1,-⟩:=hs.new _ p p' z h1 h2 hh hz
    exact .inr ⟨hh,pz,l1,hle z pz l1⟩
 ·rw[h.out]
  unfold Newly
  constructor
  ·rintro⟨p,p',z,pz,k1,k2,k3,k4,-⟩
   exact⟨p,p',k1,k2,k3,Pm.hurt_iff.2 ⟨z,k4⟩⟩
  ·rintro⟨p,p',k1,k2,k3,k4⟩
   obtain⟨z,hz⟩:=Pm.hurt_iff.1 k4
   obtain⟨pz,-,-,-,-,l1,-⟩:=hs.new _ p p' z k1 k2 hz (Pm.hurt_no.1 k3 z)
   exact⟨p,p',z,pz,k1,k2,k3,hz,l1,hle z pz l1⟩
end
end
section
open Go.RowKit
theorem enter_r{w:World}{b:Nat}{R:Rt}{D:Nat→Prop}{vt vh va:Value}{tv:List (Tx×Value)}(h:RV w b R D vt vh va tv)(q:Lk)(hl:R.aq.length<400000000000):Calls prog 28 #[ptr b,.agg #[I q.x,I q.r.lv,.string q.r.lb,I q.r.id,I q.c,.bool q.up]] w fun e w'=>e=.returned (I (entN q R.aq:Int))∧Rst w D b ⟨R.tx,R.hd,entP q R.aq⟩ w':=by
 obtain⟨tx,hd,aq⟩:=R
 obtain⟨x,⟨lv,lb,id⟩,c,up⟩:=q
 rcases h.ra.2 with ⟨h0,h1⟩|⟨ga,cap,cur,hv,-,-,hc,hm,-⟩
 ·have e:aq=[]:=List.eq_nil_of_length_eq_zero h1
  subst e h0
  cases up with
  | false=>exact enter_nil_false h x lv lb id c
  | true=>exact enter_nil_true h x lv lb id c
 ·subst hv
  cases up with
  | false=>exact enter_at_false h x lv lb id c hl hc
  | true=>exact enter_at_true h x lv lb id c hl hc
structure WB(N:Nat)(TX:List Tx)(OUT:List Int):Prop where
 ws:∀e∈TX,e.ws.Pairwise (·<·)∧e.ws.length≤N
 up:OUT.Pairwise (·<·)
 len:OUT.length≤N
theorem wnd1_bd{st id:Int}{N:Nat}{s:List Tx×List Int}(h:WB N s.1 s.2)(y:Int):WB (N+1) (wnd1 st id s y).1 (wnd1 st id s y).2∧(wnd1 st id s y).1.map (fun e=>(e.x,e.st))=s.1.map (fun e=>(e.x,e.st)):=by
 have h0:WB (N+1) s.1 s.2:=⟨fun e he=>⟨(h.ws e he).1,by have:=(h.ws e he).2;omega⟩,h.up,by have:=h.len;omega⟩
 unfold wnd1
 cases hf:s.1.findIdx? (fun e=>e.x==y)with
 | none=>exact⟨h0,rfl⟩
 | some u=>
  cases he:s.1[u]? with
  | none=>simp only[he];exact⟨h0,trivial⟩
  | some e=>
   simp only[he]
   by_cases hl:e.st≤st
   ·rw[if_pos hl];exact⟨h0,rfl⟩
   ·rw[if_neg hl]
    refine⟨⟨fun a ha=>?_,?_,?_⟩,?_⟩
    ·rcases List.mem_or_eq_of_mem_set ha with ha|rfl
     ·exact h0.ws a ha
     ·have h1:=h.ws e (List.mem_of_getElem? he)
      exact⟨insP_up h1.1,by have:=insP_len1 id e.ws;have:=h1.2;show(insP id e.ws).length≤_;omega⟩
    ·show(if e.ws=[] then insP y s.2 else s.2).Pairwise _
     split
     ·exact insP_up h.up
     ·exact h.up
    ·show(if e.ws=[] then insP y s.2 else s.2).length≤_
     split
     ·have:=insP_len1 y s.2;have:=h.len;omega
     ·have:=h.len;omega
    ·show(s.1.set u (wndE id e)).map _=_
     rw[List.map_set]
     apply List.ext_getElem?
     intro j
     rw[List.getElem?_set,List.getElem?_map]
     by_cases hj:u=j
     ·subst hj
      rw[if_pos rfl,he]
      have:=(List.getElem?_eq_some_iff.1 he).1
      simp[this,wndE]
     ·rw[if_neg hj]
theorem wndL_bd{st id:Int}{N:Nat}{s:List Tx×List Int}(h:WB N s.1 s.2)(ys:List Int):WB (N+ys.length) (wndL st id s ys).1 (wndL st id s ys).2∧(wndL st id s ys).1.map (fun e=>(e.x,e.st))=s.1.map (fun e=>(e.x,e.st)):=by
 refine snoc_ind (P:=fun ys=>WB (N+ys.length) (wndL st id s ys).1 (wndL st id s ys).2∧(wndL st id s ys).1.map (fun e=>(e.x,e.st))=s.1.map (fun e=>(e.x,e.st))) ⟨h,rfl⟩ (fun l y ih=>?_) ys
 obtain⟨h1,h2⟩:=wnd1_bd (st:=st) (id:=id) ih.1 y
 rw[wndL_snoc,List.length_append]
 exact⟨h1,h2.trans ih.2⟩
structure WJ(R:Rt)(J:Int→List Tx→List Int→Prop):Prop where
 ids:∀last TX OUT,J last TX OUT→TX.map (fun e=>(e.x,e.st))=R.tx.map (fun e=>(e.x,e.st))
 bd:∀last TX OUT,J last TX OUT→WB 100000000000 TX OUT
 wy:∀n q,R.aq[n]?=some q→∀y∈inwP R n q,∃e∈R.tx,e.x=y
 skip:∀last TX OUT e,J last TX OUT→e∈TX→last<e.st→(∀a∈TX,last<a.st→e.st≤a.st)→((∀q∈R.aq,(q.x==e.x)=false)∨e.ws≠[])→J e.st TX OUT
 hits:∀last TX OUT e n q,J last TX OUT→e∈TX→last<e.st→(∀a∈TX,last<a.st→e.st≤a.st)→R.aq[n]?=some q→q.x=e.x→e.ws=[]→J e.st (wndL e.st e.x (TX,OUT) (inwP R n q)).1 (wndL e.st e.x (TX,OUT) (inwP R n q)).2
theorem flt_less{l:List Int}{a b:Int}(hm:b∈l)(hab:a<b):(l.filter fun z=>decide (b<z)).length<(l.filter fun z=>decide (a<z)).length:=by
 induction l with
 | nil=>cases hm
 | cons c l ih=>
  have hle:(l.filter fun z=>decide (b<z)).length≤(l.filter fun z=>decide (a<z)).length:=by
   clear ih hm
   induction l with
   | nil=>simp
   | cons d l ih=>
    rw[List.filter_cons,List.filter_cons]
    by_cases h1:b<d
    ·have h2:a<d:=by omega
     simp[h1,h2];omega
    ·by_cases h2:a<d
     iterate 2
      ·simp[h1,h2];omega
  rw[List.filter_cons,List.filter_cons]
  rcases List.mem_cons.1 hm with e|hm
  ·subst e
   have h1:¬b<b:=by omega
   simp[h1,hab];omega
  ·have:=ih hm
   by_cases h1:b<c
   ·have h2:a<c:=by omega
    simp[h1,h2];omega
   ·by_cases h2:a<c
    iterate 2
     ·simp[h1,h2];omega
end
section
open Go.RowKit
theorem leave_r{w:World}{b:Nat}{R:Rt}{D:Nat→Prop}{vt vh va:Value}{tv:List (Tx×Value)}(h:RV w b R D vt vh va tv)(n:Nat)(hn:n<R.aq.length)(hl:R.aq.length<400000000000):Calls prog 31 #[ptr b,I (n:Int)] w fun e w'=>e=.returned (.tuple #[])∧Rst w D b ⟨R.tx,R.hd,cutP n R.aq⟩ w':=by
 obtain⟨ra,cap,rfl⟩:=row_form h.ra
 obtain⟨ga,hga,-⟩:=row_cell lk_len h.ra (List.getElem?_eq_getElem hn)
 subst hga
 have hcap:R.aq.length≤cap∧cap≤maxLen:=by
  rcases h.ra.2 with ⟨h0,-⟩|⟨g',cap',cur,hv,hb,hg,hc,hm,-⟩
  ·cases h0
  ·cases hv;exact⟨hc,hm⟩
 have hcells:∀W,G w W→∀j u,(lkc R.aq)[j]?=some u→W.cell? ⟨ga,j,none⟩=some u:=fun W hW j u hj=>by
  have h2:=(h.G hW).ra
  have hjl:=(List.getElem?_eq_some_iff.1 hj).1
  rw[show(lkc R.aq).length=R.aq.length*6 from flat_len Lk.cs 6 lk_len R.aq] at hjl
  rw[h2.cellAt j hjl];exact hj
 have hn0:(0:Int)≤(n:Int):=by omega
 have hnc:(n:Int)≤(cap:Int):=by omega
 have hnl:(n:Int)≤(R.aq.length:Int):=by omega
 have hwn:wrap64 ((n:Int)+1)=(n:Int)+1:=by unfold wrap64;omega
 have hn1:(n:Int)+1≤(R.aq.length:Int):=by omega
 have hn2:(n:Int)+1≤(cap:Int):=by omega
 have hlc:(R.aq.length:Int)≤(cap:Int):=by omega
 by_cases hcn:cap=n+1
 ·subst hcn
  obtain⟨v1,w1,r1,r2,r3,r4⟩:=app_lk w w.heap.size (.slice none 0 0) [] (R.aq.take n) ⟨rfl,.inl ⟨rfl,rfl⟩⟩ ⟨ga,0,none⟩ n (n+1) (by rw[List.length_take];omega) (fun j u hj=>by
   rw[Addr.add_mid,Nat.zero_add]
   refine hcells w (G.refl w) j u ?_
   have e:=lkc_app (R.aq.take n) (R.aq.drop n)
   rw[List.take_append_drop] at e
   rw[e,List.getElem?_append_left (List.getElem?_eq_some_iff.1 hj).1];exact hj) (by rw[List.length_take,List.length_nil];omega) (Nat.le_refl _)
  have g1:G w w1:=grown_G (G.refl w) r3 (fun k hk=>by cases hk)
  rw[List.nil_append] at r2
  obtain⟨v2,w2,s1,s2,s3,s4⟩:=app_lk w1 w.heap.size v1 (R.aq.take n) (R.aq.drop (n+1)) r2 ⟨ga,0,none⟩ 0 0 (by rw[List.length_drop];try omega) (fun j u hj=>by
   rw[List.drop_of_length_le (by omega)] at hj;cases hj) (by rw[List.length_take,List.length_drop];omega) g1.size
  have g2:G w w2:=grown_G g1 s3 (fun k hk=>(World.ownsRow.lt r2 k hk).1)
  obtain⟨p1,p2,p3⟩:=h.putA g2.chg (own_lo s2 (Nat.zero_le _)) (fun k hk=>.inr (World.ownsRow.lt s2 k hk).1)
  have HP:Hid (Rst w D b ⟨R.tx,R.hd,cutP n R.aq⟩ (w2.setCell ⟨b,2,none⟩ v2)):=h.ends p1 p2 p3
  obtain⟨x1,y1,hv1⟩:=row_form r2
  obtain⟨n1,hn1⟩:∃n1,n1=(R.aq.take n).length:=⟨_,rfl⟩
  rw[←hn1] at hv1
  subst hv1
  obtain⟨x2,y2,hv2⟩:=row_form s2
  obtain⟨n2,hn2⟩:∃n2,n2=(R.aq.take n++R.aq.drop (n+1)).length:=⟨_,rfl⟩
  rw[←hn2] at hv2
  subst hv2
  have hbc:=h.blk.cell
  have hb1:=(h.blk.G g1).cell
  have hb2:=(h.blk.G g2).cell
  have hz2:=(h.blk.G g2).frozen
  have HA:=hide r1;have HB:=hide s1
  clear r1 r2 r3 r4 s1 s2 s3 s4 hcells h hn1 hn2 p1 p2 p3
  go_enter func31,ntmps31
  go_wp2_with (first|(at_builtin;refine wpList_append_run rfl _ _ 87 rfl _ _ rfl rfl HA.out ?_;refine Hid.out ?_)|fail)
  unfold Hid
  go_wp2_with (first|(at_builtin;refine wpList_append_run rfl _ _ 87 rfl _ _ rfl rfl HB.out ?_)|fail)
  exact bodyPost_end (v:=.tuple #[]) (by simp[results,results31,go_sem]) rfl ⟨rfl,HP.out⟩
 ·obtain⟨v1,w1,r1,r2,r3,r4⟩:=app_lk w w.heap.size (.slice none 0 0) [] (R.aq.take n) ⟨rfl,.inl ⟨rfl,rfl⟩⟩ ⟨ga,0,none⟩ n cap (by rw[List.length_take];omega) (fun j u hj=>by
   rw[Addr.add_mid,Nat.zero_add]
   refine hcells w (G.refl w) j u ?_
   have e:=lkc_app (R.aq.take n) (R.aq.drop n)
   rw[List.take_append_drop] at e
   rw[e,List.getElem?_append_left (List.getElem?_eq_some_iff.1 hj).1];exact hj) (by rw[List.length_take,List.length_nil];omega) (Nat.le_refl _)
  have g1:G w w1:=grown_G (G.refl w) r3 (fun k hk=>by cases hk)
  rw[List.nil_append] at r2
  obtain⟨v2,w2,s1,s2,s3,s4⟩:=app_lk w1 w.heap.size v1 (R.aq.take n) (R.aq.drop (n+1)) r2 ⟨ga,(n+1)*6,none⟩ (R.aq.length-(n+1)) (cap-(n+1)) (by rw[List.length_drop];try omega) (fun j u hj=>by
   rw[Addr.add_mid]
   refine hcells w1 g1 _ u ?_
   have e:=lkc_app (R.aq.take (n+1)) (R.aq.drop (n+1))
   rw[List.take_append_drop] at e
   have hlt:(lkc (R.aq.take (n+1))).length=(n+1)*6:=by
    rw[show(lkc (R.aq.take (n+1))).length=(R.aq.take (n+1)).length*6 from flat_len Lk.cs 6 lk_len _,List.length_take,Nat.min_eq_left (by omega)]
   rw[e,List.getElem?_append_right (by omega),hlt,Nat.add_sub_cancel_left];exact hj) (by rw[List.length_take,List.length_drop];omega) g1.size
  have g2:G w w2:=grown_G g1 s3 (fun k hk=>(World.ownsRow.lt r2 k hk).1)
  obtain⟨p1,p2,p3⟩:=h.putA g2.chg (own_lo s2 (Nat.zero_le _)) (fun k hk=>.inr (World.ownsRow.lt s2 k hk).1)
  have HP:Hid (Rst w D b ⟨R.tx,R.hd,cutP n R.aq⟩ (w2.setCell ⟨b,2,none⟩ v2)):=h.ends p1 p2 p3
  obtain⟨x1,y1,hv1⟩:=row_form r2
  obtain⟨n1,hn1⟩:∃n1,n1=(R.aq.take n).length:=⟨_,rfl⟩
  rw[←hn1] at hv1
  subst hv1
  obtain⟨x2,y2,hv2⟩:=row_form s2
  obtain⟨n2,hn2⟩:∃n2,n2=(R.aq.take n++R.aq.drop (n+1)).length:=⟨_,rfl⟩
  rw[←hn2] at hv2
  subst hv2
  have hbc:=h.blk.cell
  have hb1:=(h.blk.G g1).cell
  have hb2:=(h.blk.G g2).cell
  have hz2:=(h.blk.G g2).frozen
  have HA:=hide r1;have HB:=hide s1
  clear r1 r2 r3 r4 s1 s2 s3 s4 hcells h hn1 hn2 p1 p2 p3
  go_enter func31,ntmps31
  go_wp2_with (first|(at_builtin;refine wpList_append_run rfl _ _ 87 rfl _ _ rfl rfl HA.out ?_;refine Hid.out ?_)|fail)
  unfold Hid
  go_wp2_with (first|(at_builtin;refine wpList_append_run rfl _ _ 87 rfl _ _ rfl rfl HB.out ?_)|fail)
  exact bodyPost_end (v:=.tuple #[]) (by simp[results,results31,go_sem]) rfl ⟨rfl,HP.out⟩
end
end Go.Proofs.YtadfaiciolfgjaaGreatDoor
