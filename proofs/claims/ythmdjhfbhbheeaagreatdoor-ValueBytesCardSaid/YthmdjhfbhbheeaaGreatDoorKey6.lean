import Derived.Deep.MidRow
import Derived.Laws.ResultCell
import Derived.Laws.IdiomCopy
import Derived.Deep.RegionHeld3
import Derived.ChangeKeysEq
import Derived.Test.YthmdjhfbhbheeaaGreatDoorNam2
namespace Go.Proofs.YthmdjhfbhbheeaaGreatDoor
open Go.Proofs.Tryz
set_option maxHeartbeats 16000000
set_option maxRecDepth 100000
section
open Go.RowKit Go.Shelf Go.PlainAid Go.Lib
theorem G.setCells{a:World}:∀(vs:List Value) {w:World} {b o:Nat},G a w→a.heap.size≤b→G a (w.setCells b o vs)
 | [],_,_,_,h,_=>h
 | v::vs,_,b,o,h,hb=>G.setCells vs (h.setCell (p:=⟨b,o,none⟩) hb v) hb
def Z24:List Value:=[.int .u8 0,.int .u8 0,.int .u8 0,.int .u8 0,.int .u8 0,.int .u8 0,.int .u8 0,.int .u8 0,.int .u8 0,.int .u8 0,.int .u8 0,.int .u8 0,.int .u8 0,.int .u8 0,.int .u8 0,.int .u8 0,.int .u8 0,.int .u8 0,.int .u8 0,.int .u8 0,.int .u8 0,.int .u8 0,.int .u8 0,.int .u8 0]
theorem zDf(tmps:Array Value)(W:World)(rb:Nat)(cs:List Value)(c:Int)(hp:tmps.getD 8 undef=.pointer (some ⟨rb,0,none⟩))(hc:tmps.getD 9 undef=.int .i64 c)(hr:W.rangeAt rb 0 cs)(hl:cs.length=24) :
  (results Tryz.f70 tmps).run prog W=.ok (.tuple #[.agg cs.toArray,.int .i64 c]) W:=by
 rw[results_cell_tmp results70,hp,hc];have h:=run_loadVar_mid (P:=prog) W rb 0 93 cs _ hr underlying93 rfl (by rw[hl];kernel_rfl);simp only[asAddr,Sem.run_pure,Result.andThen_ok,h]
theorem zBz{a w:World}{b n:Nat}(h:G a w)(hb:b<a.heap.size)(ht:a.there b 0 n):w.there b 0 n:=fun j hj=>by
 rw[h.cell hb,h.frozen hb];exact ht j hj
theorem zAJ:Z24.length=24:=rfl
theorem zBj:(#[.int .u8 0,.int .u8 0,.int .u8 0,.int .u8 0,.int .u8 0,.int .u8 0,.int .u8 0,.int .u8 0,.int .u8 0,.int .u8 0,.int .u8 0,.int .u8 0,.int .u8 0,.int .u8 0,.int .u8 0,.int .u8 0,.int .u8 0,.int .u8 0,.int .u8 0,.int .u8 0,.int .u8 0,.int .u8 0,.int .u8 0,.int .u8 0]:Array Value).all (·.oneCell')=true:=all_oneCell_toArray (cs:=Z24) (by decide)
theorem zBM(w:World)(k a b:Int)(s:ByteArray):let w1:=(w.alloc (.cells #[I k,I a,I b,.string s] 31)).alloc (.cells #[.int .u8 0,.int .u8 0,.int .u8 0,.int .u8 0,.int .u8 0,.int .u8 0,.int .u8 0,.int .u8 0,.int .u8 0,.int .u8 0,.int .u8 0,.int .u8 0,.int .u8 0,.int .u8 0,.int .u8 0,.int .u8 0,.int .u8 0,.int .u8 0,.int .u8 0,.int .u8 0,.int .u8 0,.int .u8 0,.int .u8 0,.int .u8 0] 93)
  G w w1∧w1.there (w.heap.size+1) 0 24∧w1.rangeAt (w.heap.size+1) 0 Z24∧(∀o,w1.cell? {block:=w.heap.size,off:=o}=[I k,I a,I b,.string s][o]?)∧w1.heap.size=w.heap.size+2:=by
 intro w1
 have hr:w1.rangeAt (w.heap.size+1) 0 Z24:=fun j u hj=>by
  have e:w1.cell? ⟨w.heap.size+1,j,none⟩=(#[.int .u8 0,.int .u8 0,.int .u8 0,.int .u8 0,.int .u8 0,.int .u8 0,.int .u8 0,.int .u8 0,.int .u8 0,.int .u8 0,.int .u8 0,.int .u8 0,.int .u8 0,.int .u8 0,.int .u8 0,.int .u8 0,.int .u8 0,.int .u8 0,.int .u8 0,.int .u8 0,.int .u8 0,.int .u8 0,.int .u8 0,.int .u8 0]:Array Value)[j]?:=by
   show(World.alloc _ _).cell? _=_;simp
  rw[Nat.zero_add,e]
  simpa [Z24] using hj
 refine⟨((G.refl w).alloc _).alloc _,fun j hj=>⟨?_,?_⟩,hr,fun o=>by simp[w1],by simp[w1]⟩
 ·obtain⟨u,hu⟩:∃u,Z24[j]?=some u:=⟨_,List.getElem?_eq_getElem hj⟩
  rw[hr j u hu];rfl
 ·simp[w1]
theorem zV5(l m:ByteArray)(k a b:Int)(s:ByteArray)(id:Int)(h1:zAY l=false)(w:World):CG 70 #[.string l,.string m,V k a b s,.int .i64 id] w (.tuple #[.agg Z24.toArray,.int .i64 73]):=by
 have HN:Hid _:=zAE l;rw[h1] at HN;clear h1;have hst:=zBM w k a b s
 go_enter func70,ntmps70
 go_wp2_with fail
 generalize (w.alloc (.cells #[I k,I a,I b,.string s] 31)).alloc (.cells #[.int .u8 0,.int .u8 0,.int .u8 0,.int .u8 0,.int .u8 0,.int .u8 0,.int .u8 0,.int .u8 0,.int .u8 0,.int .u8 0,.int .u8 0,.int .u8 0,.int .u8 0,.int .u8 0,.int .u8 0,.int .u8 0,.int .u8 0,.int .u8 0,.int .u8 0,.int .u8 0,.int .u8 0,.int .u8 0,.int .u8 0,.int .u8 0] 93)=w1 at hst⊢;obtain⟨hG,hth,hra,hbx,hsz⟩:=hst;have HT:Hid _:=hth;have HG:Hid (G w w1):=hG;clear hth hra hG;refine(HN.out _).mono ?_;rintro e w2 ⟨rfl,hw⟩;rw[hw];clear hw
 go_wp2_with (refine wpList_store_mid rfl 93 _ _ rfl (w.heap.size+1) 0 #[.int .u8 0,.int .u8 0,.int .u8 0,.int .u8 0,.int .u8 0,.int .u8 0,.int .u8 0,.int .u8 0,.int .u8 0,.int .u8 0,.int .u8 0,.int .u8 0,.int .u8 0,.int .u8 0,.int .u8 0,.int .u8 0,.int .u8 0,.int .u8 0,.int .u8 0,.int .u8 0,.int .u8 0,.int .u8 0,.int .u8 0,.int .u8 0] rfl rfl HT.out (by kernel_rfl) zBj ?_)
 refine bodyPost_ret_by (v:=.tuple #[.agg Z24.toArray,.int .i64 73]) (zDf _ _ (w.heap.size+1) Z24 73 rfl rfl (World.rangeAt_setCells_same _ _ _ _ HT.out) zAJ) rfl ⟨rfl,G.setCells _ HG.out (by omega)⟩
theorem zXN(l m:ByteArray)(k a b:Int)(s:ByteArray)(id:Int)(h1:zAY l=true)(h2:zAY m=false)(w:World):CG 70 #[.string l,.string m,V k a b s,.int .i64 id] w (.tuple #[.agg Z24.toArray,.int .i64 73]):=by
 have HN:Hid _:=zAE l;rw[h1] at HN;clear h1;have HM:Hid _:=zAE m;rw[h2] at HM;clear h2;have hst:=zBM w k a b s
 go_enter func70,ntmps70
 go_wp2_with fail
 generalize (w.alloc (.cells #[I k,I a,I b,.string s] 31)).alloc (.cells #[.int .u8 0,.int .u8 0,.int .u8 0,.int .u8 0,.int .u8 0,.int .u8 0,.int .u8 0,.int .u8 0,.int .u8 0,.int .u8 0,.int .u8 0,.int .u8 0,.int .u8 0,.int .u8 0,.int .u8 0,.int .u8 0,.int .u8 0,.int .u8 0,.int .u8 0,.int .u8 0,.int .u8 0,.int .u8 0,.int .u8 0,.int .u8 0] 93)=w1 at hst⊢;obtain⟨hG,hth,hra,hbx,hsz⟩:=hst;have HT:Hid _:=hth;have HG:Hid (G w w1):=hG;clear hth hra hG;refine(HN.out _).mono ?_;rintro e w2 ⟨rfl,hw⟩;rw[hw];clear hw
 go_wp2_with fail
 refine(HM.out _).mono ?_;rintro e w2 ⟨rfl,hw⟩;rw[hw];clear hw
 go_wp2_with (refine wpList_store_mid rfl 93 _ _ rfl (w.heap.size+1) 0 #[.int .u8 0,.int .u8 0,.int .u8 0,.int .u8 0,.int .u8 0,.int .u8 0,.int .u8 0,.int .u8 0,.int .u8 0,.int .u8 0,.int .u8 0,.int .u8 0,.int .u8 0,.int .u8 0,.int .u8 0,.int .u8 0,.int .u8 0,.int .u8 0,.int .u8 0,.int .u8 0,.int .u8 0,.int .u8 0,.int .u8 0,.int .u8 0] rfl rfl HT.out (by kernel_rfl) zBj ?_)
 refine bodyPost_ret_by (v:=.tuple #[.agg Z24.toArray,.int .i64 73]) (zDf _ _ (w.heap.size+1) Z24 73 rfl rfl (World.rangeAt_setCells_same _ _ _ _ HT.out) zAJ) rfl ⟨rfl,G.setCells _ HG.out (by omega)⟩
theorem zV4(l m:ByteArray)(k a b:Int)(s:ByteArray)(id:Int)(h1:zAY l=true)(h2:zAY m=true)(h3:okV k a b s=false)  (w:World)(hT:Tabs w):CG 70 #[.string l,.string m,V k a b s,.int .i64 id] w (.tuple #[.agg Z24.toArray,.int .i64 16]):=by
 have HN:Hid _:=zAE l;rw[h1] at HN;clear h1;have HM:Hid _:=zAE m;rw[h2] at HM;clear h2;have HT0:Hid (Tabs w):=hT;have HI:Hid (∀w,Tabs w→CG 25 #[V k a b s] w (.tuple #[zAb k a b s,.bool (okV k a b s)])):=zAi k a b s;rw[h3] at HI;generalize zAb k a b s=x at HI;clear hT h3;have hst:=zBM w k a b s
 go_enter func70,ntmps70
 go_wp2_with fail
 generalize (w.alloc (.cells #[I k,I a,I b,.string s] 31)).alloc (.cells #[.int .u8 0,.int .u8 0,.int .u8 0,.int .u8 0,.int .u8 0,.int .u8 0,.int .u8 0,.int .u8 0,.int .u8 0,.int .u8 0,.int .u8 0,.int .u8 0,.int .u8 0,.int .u8 0,.int .u8 0,.int .u8 0,.int .u8 0,.int .u8 0,.int .u8 0,.int .u8 0,.int .u8 0,.int .u8 0,.int .u8 0,.int .u8 0] 93)=w1 at hst⊢;obtain⟨hG,hth,hra,hbx,hsz⟩:=hst;have HT:Hid _:=hth;have HG:Hid (G w w1):=hG;clear hth hra hG;refine(HN.out _).mono ?_;rintro e w2 ⟨rfl,hw⟩;rw[hw];clear hw
 go_wp2_with fail
 refine(HM.out _).mono ?_;rintro e w2 ⟨rfl,hw⟩;rw[hw];clear hw
 go_wp2_with fail
 refine(HI.out _ (Tabs.G HT0.out HG.out)).mono ?_;rintro e w2 ⟨rfl,hb⟩
 replace HT:Hid _:=zBz hb (by omega) HT.out
 replace HG:Hid (G w w2):=G.trans HG.out hb
 have hsz2:w.heap.size+2≤w2.heap.size:=hsz▸hb.size;clear hb hbx hsz
 go_wp2_with (refine wpList_store_mid rfl 93 _ _ rfl (w.heap.size+1) 0 #[.int .u8 0,.int .u8 0,.int .u8 0,.int .u8 0,.int .u8 0,.int .u8 0,.int .u8 0,.int .u8 0,.int .u8 0,.int .u8 0,.int .u8 0,.int .u8 0,.int .u8 0,.int .u8 0,.int .u8 0,.int .u8 0,.int .u8 0,.int .u8 0,.int .u8 0,.int .u8 0,.int .u8 0,.int .u8 0,.int .u8 0,.int .u8 0] rfl rfl HT.out (by kernel_rfl) zBj ?_)
 refine bodyPost_ret_by (v:=.tuple #[.agg Z24.toArray,.int .i64 16]) (zDf _ _ (w.heap.size+1) Z24 16 rfl rfl (World.rangeAt_setCells_same _ _ _ _ HT.out) zAJ) rfl ⟨rfl,G.setCells _ HG.out (by omega)⟩
theorem zTD(l m:ByteArray)(k a b:Int)(s:ByteArray)(id:Int)(h1:zAY l=true)(h2:zAY m=true)(h3:okV k a b s=true)(h4:stoV k a b s=false)(w:World)(hT:Tabs w):CG 70 #[.string l,.string m,V k a b s,.int .i64 id] w (.tuple #[.agg Z24.toArray,.int .i64 10]):=by
 have HN:Hid _:=zAE l;rw[h1] at HN;clear h1;have HM:Hid _:=zAE m;rw[h2] at HM;clear h2;have HT0:Hid (Tabs w):=hT;have HI:Hid (∀w,Tabs w→CG 25 #[V k a b s] w (.tuple #[zAb k a b s,.bool (okV k a b s)])):=zAi k a b s;rw[h3] at HI;have HS:Hid (∀w,CG 75 #[zAb k a b s] w (.bool (stoV k a b s))):=zEl k a b s h3;rw[h4] at HS;generalize zAb k a b s=x at HI HS;clear hT h3 h4;have hst:=zBM w k a b s
 go_enter func70,ntmps70
 go_wp2_with fail
 generalize (w.alloc (.cells #[I k,I a,I b,.string s] 31)).alloc (.cells #[.int .u8 0,.int .u8 0,.int .u8 0,.int .u8 0,.int .u8 0,.int .u8 0,.int .u8 0,.int .u8 0,.int .u8 0,.int .u8 0,.int .u8 0,.int .u8 0,.int .u8 0,.int .u8 0,.int .u8 0,.int .u8 0,.int .u8 0,.int .u8 0,.int .u8 0,.int .u8 0,.int .u8 0,.int .u8 0,.int .u8 0,.int .u8 0] 93)=w1 at hst⊢;obtain⟨hG,hth,hra,hbx,hsz⟩:=hst;have HT:Hid _:=hth;have HG:Hid (G w w1):=hG;clear hth hra hG;refine(HN.out _).mono ?_;rintro e w2 ⟨rfl,hw⟩;rw[hw];clear hw
 go_wp2_with fail
 refine(HM.out _).mono ?_;rintro e w2 ⟨rfl,hw⟩;rw[hw];clear hw
 go_wp2_with fail
 refine(HI.out _ (Tabs.G HT0.out HG.out)).mono ?_;rintro e w2 ⟨rfl,hb⟩
 replace HT:Hid _:=zBz hb (by omega) HT.out
 replace HG:Hid (G w w2):=G.trans HG.out hb
 have hsz2:w.heap.size+2≤w2.heap.size:=hsz▸hb.size;clear hb hbx hsz
 go_wp2_with fail
 refine(HS.out _).mono ?_;rintro e w3 ⟨rfl,hb⟩
 replace HT:Hid _:=zBz hb (by omega) HT.out
 replace HG:Hid (G w w3):=G.trans HG.out hb
 clear hb
 go_wp2_with (refine wpList_store_mid rfl 93 _ _ rfl (w.heap.size+1) 0 #[.int .u8 0,.int .u8 0,.int .u8 0,.int .u8 0,.int .u8 0,.int .u8 0,.int .u8 0,.int .u8 0,.int .u8 0,.int .u8 0,.int .u8 0,.int .u8 0,.int .u8 0,.int .u8 0,.int .u8 0,.int .u8 0,.int .u8 0,.int .u8 0,.int .u8 0,.int .u8 0,.int .u8 0,.int .u8 0,.int .u8 0,.int .u8 0] rfl rfl HT.out (by kernel_rfl) zBj ?_)
 refine bodyPost_ret_by (v:=.tuple #[.agg Z24.toArray,.int .i64 10]) (zDf _ _ (w.heap.size+1) Z24 10 rfl rfl (World.rangeAt_setCells_same _ _ _ _ HT.out) zAJ) rfl ⟨rfl,G.setCells _ HG.out (by omega)⟩
theorem zXO(l m:ByteArray)(k a b:Int)(s:ByteArray)(id:Int)(h1:zAY l=true)(h2:zAY m=true)(h3:okV k a b s=true)(h4:stoV k a b s=true)(h5:id<1)(w:World)(hT:Tabs w):CG 70 #[.string l,.string m,V k a b s,.int .i64 id] w (.tuple #[.agg Z24.toArray,.int .i64 1]):=by
 have HN:Hid _:=zAE l;rw[h1] at HN;clear h1;have HM:Hid _:=zAE m;rw[h2] at HM;clear h2;have HT0:Hid (Tabs w):=hT;have HI:Hid (∀w,Tabs w→CG 25 #[V k a b s] w (.tuple #[zAb k a b s,.bool (okV k a b s)])):=zAi k a b s;rw[h3] at HI;have HS:Hid (∀w,CG 75 #[zAb k a b s] w (.bool (stoV k a b s))):=zEl k a b s h3;rw[h4] at HS;generalize zAb k a b s=x at HI HS;clear hT h3 h4;have hst:=zBM w k a b s
 go_enter func70,ntmps70
 go_wp2_with fail
 generalize (w.alloc (.cells #[I k,I a,I b,.string s] 31)).alloc (.cells #[.int .u8 0,.int .u8 0,.int .u8 0,.int .u8 0,.int .u8 0,.int .u8 0,.int .u8 0,.int .u8 0,.int .u8 0,.int .u8 0,.int .u8 0,.int .u8 0,.int .u8 0,.int .u8 0,.int .u8 0,.int .u8 0,.int .u8 0,.int .u8 0,.int .u8 0,.int .u8 0,.int .u8 0,.int .u8 0,.int .u8 0,.int .u8 0] 93)=w1 at hst⊢;obtain⟨hG,hth,hra,hbx,hsz⟩:=hst;have HT:Hid _:=hth;have HG:Hid (G w w1):=hG;clear hth hra hG;refine(HN.out _).mono ?_;rintro e w2 ⟨rfl,hw⟩;rw[hw];clear hw
 go_wp2_with fail
 refine(HM.out _).mono ?_;rintro e w2 ⟨rfl,hw⟩;rw[hw];clear hw
 go_wp2_with fail
 refine(HI.out _ (Tabs.G HT0.out HG.out)).mono ?_;rintro e w2 ⟨rfl,hb⟩
 replace HT:Hid _:=zBz hb (by omega) HT.out
 replace HG:Hid (G w w2):=G.trans HG.out hb
 have hsz2:w.heap.size+2≤w2.heap.size:=hsz▸hb.size;clear hb hbx hsz
 go_wp2_with fail
 refine(HS.out _).mono ?_;rintro e w3 ⟨rfl,hb⟩
 replace HT:Hid _:=zBz hb (by omega) HT.out
 replace HG:Hid (G w w3):=G.trans HG.out hb
 clear hb
 go_wp2_with (refine wpList_store_mid rfl 93 _ _ rfl (w.heap.size+1) 0 #[.int .u8 0,.int .u8 0,.int .u8 0,.int .u8 0,.int .u8 0,.int .u8 0,.int .u8 0,.int .u8 0,.int .u8 0,.int .u8 0,.int .u8 0,.int .u8 0,.int .u8 0,.int .u8 0,.int .u8 0,.int .u8 0,.int .u8 0,.int .u8 0,.int .u8 0,.int .u8 0,.int .u8 0,.int .u8 0,.int .u8 0,.int .u8 0] rfl rfl HT.out (by kernel_rfl) zBj ?_)
 refine bodyPost_ret_by (v:=.tuple #[.agg Z24.toArray,.int .i64 1]) (zDf _ _ (w.heap.size+1) Z24 1 rfl rfl (World.rangeAt_setCells_same _ _ _ _ HT.out) zAJ) rfl ⟨rfl,G.setCells _ HG.out (by omega)⟩
theorem zXP(l m:ByteArray)(k a b:Int)(s:ByteArray)(id:Int)(h1:zAY l=true)(h2:zAY m=true)(h3:okV k a b s=true)(h4:stoV k a b s=true)(h5:4294967295<id)(w:World)(hT:Tabs w):CG 70 #[.string l,.string m,V k a b s,.int .i64 id] w (.tuple #[.agg Z24.toArray,.int .i64 1]):=by
 have HN:Hid _:=zAE l;rw[h1] at HN;clear h1;have HM:Hid _:=zAE m;rw[h2] at HM;clear h2;have HT0:Hid (Tabs w):=hT;have HI:Hid (∀w,Tabs w→CG 25 #[V k a b s] w (.tuple #[zAb k a b s,.bool (okV k a b s)])):=zAi k a b s;rw[h3] at HI;have HS:Hid (∀w,CG 75 #[zAb k a b s] w (.bool (stoV k a b s))):=zEl k a b s h3;rw[h4] at HS;generalize zAb k a b s=x at HI HS;clear hT h3 h4;have hst:=zBM w k a b s
 go_enter func70,ntmps70
 go_wp2_with fail
 generalize (w.alloc (.cells #[I k,I a,I b,.string s] 31)).alloc (.cells #[.int .u8 0,.int .u8 0,.int .u8 0,.int .u8 0,.int .u8 0,.int .u8 0,.int .u8 0,.int .u8 0,.int .u8 0,.int .u8 0,.int .u8 0,.int .u8 0,.int .u8 0,.int .u8 0,.int .u8 0,.int .u8 0,.int .u8 0,.int .u8 0,.int .u8 0,.int .u8 0,.int .u8 0,.int .u8 0,.int .u8 0,.int .u8 0] 93)=w1 at hst⊢;obtain⟨hG,hth,hra,hbx,hsz⟩:=hst;have HT:Hid _:=hth;have HG:Hid (G w w1):=hG;clear hth hra hG;refine(HN.out _).mono ?_;rintro e w2 ⟨rfl,hw⟩;rw[hw];clear hw
 go_wp2_with fail
 refine(HM.out _).mono ?_;rintro e w2 ⟨rfl,hw⟩;rw[hw];clear hw
 go_wp2_with fail
 refine(HI.out _ (Tabs.G HT0.out HG.out)).mono ?_;rintro e w2 ⟨rfl,hb⟩
 replace HT:Hid _:=zBz hb (by omega) HT.out
 replace HG:Hid (G w w2):=G.trans HG.out hb
 have hsz2:w.heap.size+2≤w2.heap.size:=hsz▸hb.size;clear hb hbx hsz
 go_wp2_with fail
 refine(HS.out _).mono ?_;rintro e w3 ⟨rfl,hb⟩
 replace HT:Hid _:=zBz hb (by omega) HT.out
 replace HG:Hid (G w w3):=G.trans HG.out hb
 clear hb
 go_wp2_with (refine wpList_store_mid rfl 93 _ _ rfl (w.heap.size+1) 0 #[.int .u8 0,.int .u8 0,.int .u8 0,.int .u8 0,.int .u8 0,.int .u8 0,.int .u8 0,.int .u8 0,.int .u8 0,.int .u8 0,.int .u8 0,.int .u8 0,.int .u8 0,.int .u8 0,.int .u8 0,.int .u8 0,.int .u8 0,.int .u8 0,.int .u8 0,.int .u8 0,.int .u8 0,.int .u8 0,.int .u8 0,.int .u8 0] rfl rfl HT.out (by kernel_rfl) zBj ?_)
 refine bodyPost_ret_by (v:=.tuple #[.agg Z24.toArray,.int .i64 1]) (zDf _ _ (w.heap.size+1) Z24 1 rfl rfl (World.rangeAt_setCells_same _ _ _ _ HT.out) zAJ) rfl ⟨rfl,G.setCells _ HG.out (by omega)⟩
end
section
open Go.RowKit Go.Shelf Go.PlainAid Go.Lib
structure KW(w:World)(g:Nat)(f:Nat→Nat)(W:World):Prop where
 gg:G w W
 rb:W.there (w.heap.size+1) 0 24
 c:∀j,j<24→W.cell? ⟨g,j,none⟩=some (bv (f j))
 fz:∀j,j<24→W.frozen? ⟨g,j,none⟩=false
 lo:w.heap.size+1<g
 hi:g<W.heap.size
theorem KW.keep{w:World}{g:Nat}{f:Nat→Nat}{W W':World}(h:KW w g f W)(k:G W W'):KW w g f W':=
 ⟨h.gg.trans k,zBz k (by have:=h.lo;have:=h.hi;omega) h.rb,fun j hj=>by rw[k.cell h.hi];exact h.c j hj,fun j hj=>by rw[k.frozen h.hi];exact h.fz j hj,h.lo,Nat.lt_of_lt_of_le h.hi k.size⟩
theorem KW.put{w:World}{g:Nat}{f:Nat→Nat}{W W':World}(h:KW w g f W){off len x:Nat}(k:PutR W g off len len x W') :
  KW w g (fun j=>if off≤j∧j<off+len then x/256^(len-1-(j-off))%256 else f j) W':=by
 have hlo:=h.lo;refine⟨k.keep _ h.gg (by omega),fun j hj=>?_,fun j hj=>?_,fun j hj=>by rw[k.frozen];exact h.fz j hj,hlo,by rw[k.size];exact h.hi⟩
 ·rw[k.other _ _ (by omega),k.frozen];exact h.rb j hj
 ·by_cases hj2:off≤j∧j<off+len
  ·have:=k.new (j-off) (by omega) (by omega)
   rw[show off+(j-off)=j by omega] at this;rw[this];simp only[if_pos hj2]
  ·rw[k.old j (by omega)];simp only[if_neg hj2];exact h.c j hj
theorem KW.cells{w:World}{g:Nat}{f:Nat→Nat}{W:World}(h:KW w g f W){off:Nat}(ys:List Nat)(hl:off+ys.length≤24) :
  KW w g (fun j=>if off≤j∧j<off+ys.length then ys.getD (j-off) 0 else f j) (W.setCells g off (ys.map bv)):=by
 have hlo:=h.lo;refine⟨G.setCells _ h.gg (by omega),World.there_setCells h.rb _ _ _,fun j hj=>?_,fun j hj=>by rw[World.frozen?_setCells];exact h.fz j hj,hlo,?_⟩
 ·by_cases hj2:off≤j∧j<off+ys.length
  ·have:=World.cell?_setCells_in g (ys.map bv) off W (fun i hi=>by rw[h.c (off+i) (by simp at hi;omega)];rfl) (j-off) (by simp;omega)
   rw[show off+(j-off)=j by omega] at this;rw[this];simp only[if_pos hj2,List.getElem_map];rw[List.getD_eq_getElem?_getD,List.getElem?_eq_getElem (by omega),Option.getD_some]
  ·rw[World.cell?_setCells_out g (ys.map bv) off W _ (fun _ _=>by simp;omega)];simp only[if_neg hj2];exact h.c j hj
 ·have:=(G.setCells (a:=W) (ys.map bv) (G.refl W) (b:=W.heap.size) (o:=off) (Nat.le_refl _)).size
  have e:∀(vs:List Value) (W:World) (o:Nat),(W.setCells g o vs).heap.size=W.heap.size:=by
   intro vs;induction vs with
   | nil=>intros;rfl
   | cons v vs ih=>intro W o;rw[World.setCells,ih];simp
  rw[e];exact h.hi
def cellsOf(f:Nat→Nat):List Value:=(List.range 24).map fun j=>bv (f j)
theorem zAH(f:Nat→Nat):(cellsOf f).length=24:=by simp[cellsOf]
theorem zCl(f:Nat→Nat):(cellsOf f).toArray.all (·.oneCell')=true:=all_oneCell_toArray (fun v hv=>by
 simp only[cellsOf,List.mem_map] at hv;obtain⟨j,_,rfl⟩:=hv;rfl)
theorem KW.range{w:World}{g:Nat}{f:Nat→Nat}{W:World}(h:KW w g f W):W.rangeAt g 0 (cellsOf f):=fun j u hj=>by
 have hj24:j<24:=by have:=(List.getElem?_eq_some_iff.1 hj).1;rwa [zAH] at this
 rw[Nat.zero_add,h.c j hj24,←hj];simp[cellsOf,hj24]
theorem zEn{P:Program}{ops:Array Oper}{o:Oper}{a:Act}{w:World}{K:Act→World→Prop}{Q:Exit→Act→World→Prop}{E:Prop}(hgd:o.guard=none)(d s:Operand)(dT sT:TypeId)
  (ho:o.op=.call {callee:=.builtin .copy,args:=#[d,s],argTypes:=#[dT,sT]}) (elem:TypeId) (hu:P.underlying dT=some (.slice elem)) (hsz:(P.info? elem).map (·.size)=some 1)
  (g off dLen dCap:Nat) (ad:Addr) (sLen sCap:Nat) (hd:a.eval d=.slice (some ⟨g,off,none⟩) dLen dCap) (hs:a.eval s=.slice (some ad) sLen sCap)
  (cs:List Value) (hn:cs.length=Nat.min sLen dLen) (hsrc:∀j v,cs[j]?=some v→w.cell? (ad.add j)=some v) (ht:w.there g off cs.length) (h1:∀v∈cs,v.oneCell'=true)
  (h:K (a.put o.dst (goInt cs.length)) (w.setCells g off cs)) :
  if Region.wanted o (yielded ops a.tmps)=true then Oper.wp P o a w K Q else E:=by
 have hw:Region.wanted o (yielded ops a.tmps)=true:=by simp[Region.wanted,hgd]
 rw[if_pos hw];have hrun:=run_copy_cells (P:=P) w dT sT o.type elem g off dLen dCap ad sLen sCap cs hu hsz hn hsrc (fun j hj=>(ht j hj).1) (fun j hj=>(ht j hj).2) h1;unfold Oper.wp;simp[execOp,ho,resolve,invoke,builtin,hd,hs,hrun,Result.andThen];exact h
end
section
open Go.RowKit Go.Shelf Go.PlainAid Go.Lib
theorem zLa:∀j,j<24→(#[.int .u8 0,.int .u8 0,.int .u8 0,.int .u8 0,.int .u8 0,.int .u8 0,.int .u8 0,.int .u8 0,.int .u8 0,.int .u8 0,.int .u8 0,.int .u8 0,.int .u8 0,.int .u8 0,.int .u8 0,.int .u8 0,.int .u8 0,.int .u8 0,.int .u8 0,.int .u8 0,.int .u8 0,.int .u8 0,.int .u8 0,.int .u8 0]:Array Value)[j]?=some (bv 0):=fun j hj=>by
 show(List.replicate 24 (bv 0)).toArray[j]?=_;rw[List.getElem?_toArray,List.getElem?_replicate,if_pos hj]
theorem zNi{w w3:World}(hG:G w w3)(ht:w3.there (w.heap.size+1) 0 24)(hsz:w.heap.size+2≤w3.heap.size):KW w w3.heap.size (fun _=>0) (w3.alloc (.cells #[.int .u8 0,.int .u8 0,.int .u8 0,.int .u8 0,.int .u8 0,.int .u8 0,.int .u8 0,.int .u8 0,.int .u8 0,.int .u8 0,.int .u8 0,.int .u8 0,.int .u8 0,.int .u8 0,.int .u8 0,.int .u8 0,.int .u8 0,.int .u8 0,.int .u8 0,.int .u8 0,.int .u8 0,.int .u8 0,.int .u8 0,.int .u8 0] 93)):=by
 refine⟨hG.alloc _,zBz ((G.refl w3).alloc _) (by omega) ht,fun j hj=>?_,fun j hj=>by simp,by omega,by simp⟩
 have e:(w3.alloc (.cells #[.int .u8 0,.int .u8 0,.int .u8 0,.int .u8 0,.int .u8 0,.int .u8 0,.int .u8 0,.int .u8 0,.int .u8 0,.int .u8 0,.int .u8 0,.int .u8 0,.int .u8 0,.int .u8 0,.int .u8 0,.int .u8 0,.int .u8 0,.int .u8 0,.int .u8 0,.int .u8 0,.int .u8 0,.int .u8 0,.int .u8 0,.int .u8 0] 93)).cell? ⟨w3.heap.size,j,none⟩=(#[.int .u8 0,.int .u8 0,.int .u8 0,.int .u8 0,.int .u8 0,.int .u8 0,.int .u8 0,.int .u8 0,.int .u8 0,.int .u8 0,.int .u8 0,.int .u8 0,.int .u8 0,.int .u8 0,.int .u8 0,.int .u8 0,.int .u8 0,.int .u8 0,.int .u8 0,.int .u8 0,.int .u8 0,.int .u8 0,.int .u8 0,.int .u8 0]:Array Value)[j]?:=by simp
 rw[e,zLa j hj]
def putF(off len x:Nat)(f:Nat→Nat):Nat→Nat:=fun j=>if off≤j∧j<off+len then x/256^(len-1-(j-off))%256 else f j
def layF(off:Nat)(ys:List Nat)(f:Nat→Nat):Nat→Nat:=fun j=>if off≤j∧j<off+ys.length then ys.getD (j-off) 0 else f j
theorem KW.Put{w:World}{g:Nat}{f:Nat→Nat}{W:World}(h:KW w g f W)(off len cap x:Nat)(hl:off+len≤24)(hcap:len≤cap) :
  Calls prog 110 #[.slice (some ⟨g,off,none⟩) len cap,.int .u64 x] W fun e w'=>e=.returned (.tuple #[])∧KW w g (putF off len x f) w':=by
 refine(zHP g off len cap x (by omega) hcap W (fun j hj=>⟨_,h.c (off+j) (by omega)⟩) (fun j hj=>h.fz (off+j) (by omega))).mono ?_;rintro e w' ⟨rfl,hp⟩;exact⟨rfl,h.put hp⟩
theorem Bw.cells{w W:World}{x:Value}{ys:List Nat}(h:Bw w W x ys)(hp:0<ys.length):∃g cap,x=.slice (some ⟨g,0,none⟩) ys.length cap∧∀(j:Nat) (u:Value),((ys.take 8).map bv)[j]?=some u→W.cell? ((⟨g,0,none⟩:Addr).add j)=some u:=by
 rcases h.at with ⟨_,rfl⟩|⟨g,cap,rfl,_,_,_,hc⟩
 ·simp at hp
 ·refine⟨g,cap,rfl,fun j u hj=>?_⟩
  rw[Addr.add_mid,Nat.zero_add];rw[List.getElem?_map,Option.map_eq_some_iff] at hj;obtain⟨d,hd,rfl⟩:=hj;exact hc j d (by rw[List.getElem?_take] at hd;split at hd<;>simp_all)
theorem zJq(k a b:Int)(s:ByteArray):0<(encV k a b s).length:=by
 unfold encV
 repeat' split
 all_goals (simp only[List.length_append,List.length_cons,List.length_nil];omega)
theorem zFC(n:Nat)(h:n<18446744073709551616):IntKind.u64.wrap (n:Int)=n:=by rw[IntKind.wrap_u64];omega
def keyF(pl pm:Nat)(ys:List Nat)(id:Nat):Nat→Nat:=putF 20 4 id (layF 12 (ys.take 8) (putF 6 6 pm (putF 0 6 pl fun _=>0)))
theorem zV3(l m:ByteArray)(k a b:Int)(s:ByteArray)(id:Nat)(h1:zAZ l)(h2:zAZ m)(h3:okV k a b s=true)(h4:stoV k a b s=true)(h5:1≤id)(h6:id≤4294967295)(ha:R64 a)(w:World)(hT:Tabs w) :
  Calls prog 70 #[.string l,.string m,V k a b s,.int .i64 id] w fun e w'=>∃pl pm:Nat,(pl:Int)=zAo l 8∧(pm:Int)=zAo m 8∧e=.returned (.tuple #[.agg (cellsOf (keyF pl pm (encV k a b s) id)).toArray,.int .i64 0])∧G w w':=by
 have HN:Hid _:=zAE l;rw[(zBh l).2 h1] at HN;have HM:Hid _:=zAE m;rw[(zBh m).2 h2] at HM;have HI:Hid (∀w,Tabs w→CG 25 #[V k a b s] w (.tuple #[zAb k a b s,.bool (okV k a b s)])):=zAi k a b s;rw[h3] at HI;have HS:Hid (∀w,CG 75 #[zAb k a b s] w (.bool (stoV k a b s))):=zEl k a b s h3;rw[h4] at HS;have HP:Hid (∀w,Calls prog 107 #[.string l] w fun e w'=>e=.returned (.int .i64 (zAo l 8))∧w'=w):=zI2 l h1;have HQ:Hid (∀w,Calls prog 107 #[.string m] w fun e w'=>e=.returned (.int .i64 (zAo m 8))∧w'=w):=zI2 m h2;obtain⟨pl,hpl⟩:∃n:Nat,zAo l 8=n:=⟨(zAo l 8).toNat,by have:=(zBf l h1 8).1;omega⟩
 have bl:pl<3512479453921:=by have:=(zBf l h1 8).2;rw[hpl] at this;omega
 obtain⟨pm,hpm⟩:∃n:Nat,zAo m 8=n:=⟨(zAo m 8).toNat,by have:=(zBf m h2 8).1;omega⟩
 have bm:pm<3512479453921:=by have:=(zBf m h2 8).2;rw[hpm] at this;omega
 rw[hpl] at HP;rw[hpm] at HQ;refine(?_:Calls prog 70 #[.string l,.string m,V k a b s,.int .i64 id] w fun e w'=>e=.returned (.tuple #[.agg (cellsOf (keyF pl pm (encV k a b s) id)).toArray,.int .i64 0])∧G w w').mono (fun e w' h=>⟨pl,pm,hpl.symm,hpm.symm,h⟩);have hne:=zJq k a b s;have wl:=zFC pl (by omega);have wm:=zFC pm (by omega);have wi:=zFC id (by omega);have HC:Hid (zUB (zAb k a b s) (encV k a b s)):=zDv k a b s h3 ha;generalize encV k a b s=ys at HC hne⊢;generalize zAb k a b s=x at HI HS HC;have HT0:Hid (Tabs w):=hT;clear hT h1 h2 h3 h4 ha hpl hpm;obtain⟨t,f,v,rfl,hmt,hcf,hcd⟩:=HC.out;clear HC;have hst:=zBM w k a b s
 go_enter func70,ntmps70
 go_wp2_with fail
 generalize (w.alloc (.cells #[I k,I a,I b,.string s] 31)).alloc (.cells #[.int .u8 0,.int .u8 0,.int .u8 0,.int .u8 0,.int .u8 0,.int .u8 0,.int .u8 0,.int .u8 0,.int .u8 0,.int .u8 0,.int .u8 0,.int .u8 0,.int .u8 0,.int .u8 0,.int .u8 0,.int .u8 0,.int .u8 0,.int .u8 0,.int .u8 0,.int .u8 0,.int .u8 0,.int .u8 0,.int .u8 0,.int .u8 0] 93)=w1 at hst⊢;obtain⟨hG,hth,hra,hbx,hsz⟩:=hst;have HT:Hid _:=hth;have HG:Hid (G w w1):=hG;clear hth hra hG;refine(HN.out _).mono ?_;rintro e w2 ⟨rfl,hw⟩;rw[hw];clear hw
 go_wp2_with fail
 refine(HM.out _).mono ?_;rintro e w2 ⟨rfl,hw⟩;rw[hw];clear hw
 go_wp2_with fail
 refine(HI.out _ (Tabs.G HT0.out HG.out)).mono ?_;rintro e w2 ⟨rfl,hb⟩
 replace HT:Hid _:=zBz hb (by omega) HT.out
 replace HG:Hid (G w w2):=G.trans HG.out hb
 have hsz2:w.heap.size+2≤w2.heap.size:=hsz▸hb.size;clear hb hbx hsz
 go_wp2_with fail
 refine(HS.out _).mono ?_;rintro e w3 ⟨rfl,hb⟩;have hsz3:w.heap.size+2≤w3.heap.size:=Nat.le_trans hsz2 hb.size;have hk:=zNi (G.trans HG.out hb) (zBz hb (by omega) HT.out) hsz3;clear hb hsz2 HT HG hsz3
 go_wp2_with fail
 generalize w3.alloc (.cells #[.int .u8 0,.int .u8 0,.int .u8 0,.int .u8 0,.int .u8 0,.int .u8 0,.int .u8 0,.int .u8 0,.int .u8 0,.int .u8 0,.int .u8 0,.int .u8 0,.int .u8 0,.int .u8 0,.int .u8 0,.int .u8 0,.int .u8 0,.int .u8 0,.int .u8 0,.int .u8 0,.int .u8 0,.int .u8 0,.int .u8 0,.int .u8 0] 93)=w4 at hk⊢;generalize w3.heap.size=g at hk⊢;have HK:Hid _:=hk;clear hk
 go_region_held3 (fun _=>True) (trivial) (first|(go_at_call 107;refine(HP.out _).mono ?_;rintro e w5 ⟨rfl,hw5⟩;rw[hw5];clear hw5)|(go_at_call 110;refine(KW.Put (KW.keep HK.out (by repeat(first|exact G.refl _|refine G.drew ?_))) 0 6 24 pl (by omega) (by omega)).mono ?_;rintro e w6 ⟨rfl,hk⟩)|fail)
 clear HK HP wl;have HK:Hid _:=hk;clear hk
 go_wp2_with fail
 go_region_held3 (fun _=>True) (trivial) (first|(go_at_call 107;refine(HQ.out _).mono ?_;rintro e w5 ⟨rfl,hw5⟩;rw[hw5];clear hw5)|(go_at_call 110;refine(KW.Put (KW.keep HK.out (by repeat(first|exact G.refl _|refine G.drew ?_))) 6 6 18 pm (by omega) (by omega)).mono ?_;rintro e w7 ⟨rfl,hk⟩)|fail)
 clear HK HQ wm;have HK:Hid _:=hk;clear hk
 go_wp2_with fail
 go_region_held3 (fun _=>True) (trivial) (first|(refine(hcd _).mono ?_;rintro e w8 ⟨x8,rfl,hB⟩;obtain⟨g8,cap8,rfl,hc8⟩:=hB.cells hne;have hk:=KW.keep (KW.keep HK.out (by repeat(first|exact G.refl _|refine G.drew ?_))) hB.g;clear hB)|(refine zEn rfl (.tmp 51) (.tmp 53) 33 33 rfl 5 underlying33 (by kernel_rfl) g 12 8 12 _ ys.length cap8 rfl rfl ((ys.take 8).map bv) (by rw[List.length_map,List.length_take];exact Nat.min_comm _ _) hc8 (fun j hj=>⟨by rw[hk.c (12+j) (by simp at hj;omega)];rfl,hk.fz (12+j) (by simp at hj;omega)⟩) (fun u hu=>by simp only[List.mem_map] at hu;obtain⟨d,_,rfl⟩:=hu;rfl) ?_;replace hk:KW w g (layF 12 (ys.take 8) _) _:=hk.cells (off:=12) (ys.take 8) (by simp;omega))|fail)
 clear hc8 HK;generalize w8.setCells g 12 (List.map bv (List.take 8 ys))=w9 at hk⊢;have HK:Hid _:=hk;clear hk
 go_wp2_with fail
 refine(KW.Put (KW.keep HK.out (by repeat(first|exact G.refl _|refine G.drew ?_))) 20 4 4 id (by omega) (by omega)).mono ?_;rintro e w10 ⟨rfl,hk⟩
 change KW w g (keyF pl pm ys id) w10 at hk
 clear HK;obtain⟨F,hF⟩:∃F,F=keyF pl pm ys id:=⟨_,rfl⟩;rw[←hF] at hk;have HF:Hid _:=hF;clear hF;have HK:Hid _:=hk;clear hk
 have hcl:(cellsOf F).toArray.size=24:=by simp[cellsOf]
 have HL:Hid _:=hcl;clear hcl
 go_wp2_with (first|refine wpList_load_mid rfl 93 _ rfl g 0 rfl (cellsOf F) _ HK.out.range underlying93 rfl (by rw[zAH];kernel_rfl) ?_|refine wpList_store_mid rfl 93 _ _ rfl (w.heap.size+1) 0 (cellsOf F).toArray rfl rfl (by rw[HL.out];exact HK.out.rb) (by rw[HL.out];kernel_rfl) (zCl F) ?_)
 refine bodyPost_ret_by (v:=.tuple #[.agg (cellsOf F).toArray,.int .i64 0]) (zDf _ _ (w.heap.size+1) (cellsOf F) 0 rfl rfl (World.rangeAt_setCells_same _ _ _ _ (by rw[zAH];exact HK.out.rb)) (zAH F)) rfl ⟨by rw[HF.out],G.setCells _ HK.out.gg (by omega)⟩
end
section
open Go.RowKit Go.Shelf Go.PlainAid Go.Lib
theorem zBU(tmps:Array Value)(W:World)(rb:Nat)(cs:List Value)(c:Int)(hp:tmps.getD 8 undef=.pointer (some ⟨rb,0,none⟩))(hc:tmps.getD 9 undef=.int .i64 c)(hr:W.rangeAt rb 0 cs)(hl:cs.length=24) :
  (results Tryz.f71 tmps).run prog W=.ok (.tuple #[.agg cs.toArray,.int .i64 c]) W:=by
 rw[results_cell_tmp results71,hp,hc];have h:=run_loadVar_mid (P:=prog) W rb 0 92 cs _ hr underlying92 rfl (by rw[hl];kernel_rfl);simp only[asAddr,Sem.run_pure,Result.andThen_ok,h]
theorem zOP(w:World)(k a b:Int)(s:ByteArray):let w1:=(w.alloc (.cells #[I k,I a,I b,.string s] 31)).alloc (.cells #[.int .u8 0,.int .u8 0,.int .u8 0,.int .u8 0,.int .u8 0,.int .u8 0,.int .u8 0,.int .u8 0,.int .u8 0,.int .u8 0,.int .u8 0,.int .u8 0,.int .u8 0,.int .u8 0,.int .u8 0,.int .u8 0,.int .u8 0,.int .u8 0,.int .u8 0,.int .u8 0,.int .u8 0,.int .u8 0,.int .u8 0,.int .u8 0] 92)
  G w w1∧w1.there (w.heap.size+1) 0 24∧w1.rangeAt (w.heap.size+1) 0 Z24∧(∀o,w1.cell? {block:=w.heap.size,off:=o}=[I k,I a,I b,.string s][o]?)∧w1.heap.size=w.heap.size+2:=by
 intro w1
 have hr:w1.rangeAt (w.heap.size+1) 0 Z24:=fun j u hj=>by
  have e:w1.cell? ⟨w.heap.size+1,j,none⟩=(#[.int .u8 0,.int .u8 0,.int .u8 0,.int .u8 0,.int .u8 0,.int .u8 0,.int .u8 0,.int .u8 0,.int .u8 0,.int .u8 0,.int .u8 0,.int .u8 0,.int .u8 0,.int .u8 0,.int .u8 0,.int .u8 0,.int .u8 0,.int .u8 0,.int .u8 0,.int .u8 0,.int .u8 0,.int .u8 0,.int .u8 0,.int .u8 0]:Array Value)[j]?:=by
   show(World.alloc _ _).cell? _=_;simp
  rw[Nat.zero_add,e]
  simpa [Z24] using hj
 refine⟨((G.refl w).alloc _).alloc _,fun j hj=>⟨?_,?_⟩,hr,fun o=>by simp[w1],by simp[w1]⟩
 ·obtain⟨u,hu⟩:∃u,Z24[j]?=some u:=⟨_,List.getElem?_eq_getElem hj⟩
  rw[hr j u hu];rfl
 ·simp[w1]
theorem zKs{w w3:World}(hG:G w w3)(ht:w3.there (w.heap.size+1) 0 24)(hsz:w.heap.size+2≤w3.heap.size):KW w w3.heap.size (fun _=>0) (w3.alloc (.cells #[.int .u8 0,.int .u8 0,.int .u8 0,.int .u8 0,.int .u8 0,.int .u8 0,.int .u8 0,.int .u8 0,.int .u8 0,.int .u8 0,.int .u8 0,.int .u8 0,.int .u8 0,.int .u8 0,.int .u8 0,.int .u8 0,.int .u8 0,.int .u8 0,.int .u8 0,.int .u8 0,.int .u8 0,.int .u8 0,.int .u8 0,.int .u8 0] 92)):=by
 refine⟨hG.alloc _,zBz ((G.refl w3).alloc _) (by omega) ht,fun j hj=>?_,fun j hj=>by simp,by omega,by simp⟩
 have e:(w3.alloc (.cells #[.int .u8 0,.int .u8 0,.int .u8 0,.int .u8 0,.int .u8 0,.int .u8 0,.int .u8 0,.int .u8 0,.int .u8 0,.int .u8 0,.int .u8 0,.int .u8 0,.int .u8 0,.int .u8 0,.int .u8 0,.int .u8 0,.int .u8 0,.int .u8 0,.int .u8 0,.int .u8 0,.int .u8 0,.int .u8 0,.int .u8 0,.int .u8 0] 92)).cell? ⟨w3.heap.size,j,none⟩=(#[.int .u8 0,.int .u8 0,.int .u8 0,.int .u8 0,.int .u8 0,.int .u8 0,.int .u8 0,.int .u8 0,.int .u8 0,.int .u8 0,.int .u8 0,.int .u8 0,.int .u8 0,.int .u8 0,.int .u8 0,.int .u8 0,.int .u8 0,.int .u8 0,.int .u8 0,.int .u8 0,.int .u8 0,.int .u8 0,.int .u8 0,.int .u8 0]:Array Value)[j]?:=by simp
 rw[e,zLa j hj]
theorem zA4(w:World)(k a b:Int)(s:ByteArray):let w1:=((w.alloc (.cells #[I k,I a,I b,.string s] 31)).alloc (.cells #[.int .u8 0,.int .u8 0,.int .u8 0,.int .u8 0,.int .u8 0,.int .u8 0,.int .u8 0,.int .u8 0,.int .u8 0,.int .u8 0,.int .u8 0,.int .u8 0,.int .u8 0,.int .u8 0,.int .u8 0,.int .u8 0,.int .u8 0,.int .u8 0,.int .u8 0,.int .u8 0,.int .u8 0,.int .u8 0,.int .u8 0,.int .u8 0] 92)).alloc (.cells #[.int .u8 0,.int .u8 0,.int .u8 0,.int .u8 0,.int .u8 0,.int .u8 0,.int .u8 0,.int .u8 0,.int .u8 0,.int .u8 0,.int .u8 0,.int .u8 0,.int .u8 0,.int .u8 0,.int .u8 0,.int .u8 0,.int .u8 0,.int .u8 0,.int .u8 0,.int .u8 0,.int .u8 0,.int .u8 0,.int .u8 0,.int .u8 0] 92)
  KW w (w.heap.size+2) (fun _=>0) w1∧(∀o,w1.cell? {block:=w.heap.size,off:=o}=[I k,I a,I b,.string s][o]?)∧w1.heap.size=w.heap.size+3:=by
 obtain⟨h1,h2,_,h4,h5⟩:=zOP w k a b s
 revert h1 h2 h4 h5
 generalize (w.alloc (.cells #[I k,I a,I b,.string s] 31)).alloc (.cells #[.int .u8 0,.int .u8 0,.int .u8 0,.int .u8 0,.int .u8 0,.int .u8 0,.int .u8 0,.int .u8 0,.int .u8 0,.int .u8 0,.int .u8 0,.int .u8 0,.int .u8 0,.int .u8 0,.int .u8 0,.int .u8 0,.int .u8 0,.int .u8 0,.int .u8 0,.int .u8 0,.int .u8 0,.int .u8 0,.int .u8 0,.int .u8 0] 92)=w0;intro h1 h2 h4 h5;have h:=zKs h1 h2 (by omega);rw[h5] at h;exact⟨h,G.cells ((G.refl w0).alloc _) h4 (by omega),by simp[h5]⟩
theorem zU7(l m:ByteArray)(k a b:Int)(s:ByteArray)(id:Int)(h1:zAY l=false)(h2:zAZ m)(w:World):CG 71 #[.string l,.string m,V k a b s,.int .i64 id] w (.tuple #[.agg Z24.toArray,.int .i64 73]):=by
 have HN:Hid (∀w,Calls prog 67 #[.string l] w fun e w'=>e=.returned (.tuple #[.int .i64 0,.int .i64 73])∧w'=w):=zFo l h1;have HM:Hid (∀w,Calls prog 67 #[.string m] w fun e w'=>e=.returned (.tuple #[.int .i64 (zAo m 8),.int .i64 0])∧w'=w):=zBe m h2;generalize zAo m 8=pm at HM;clear h1 h2;have hst:=zA4 w k a b s
 go_enter func71,ntmps71
 go_wp2_with fail
 generalize ((w.alloc (.cells #[I k,I a,I b,.string s] 31)).alloc (.cells #[.int .u8 0,.int .u8 0,.int .u8 0,.int .u8 0,.int .u8 0,.int .u8 0,.int .u8 0,.int .u8 0,.int .u8 0,.int .u8 0,.int .u8 0,.int .u8 0,.int .u8 0,.int .u8 0,.int .u8 0,.int .u8 0,.int .u8 0,.int .u8 0,.int .u8 0,.int .u8 0,.int .u8 0,.int .u8 0,.int .u8 0,.int .u8 0] 92)).alloc (.cells #[.int .u8 0,.int .u8 0,.int .u8 0,.int .u8 0,.int .u8 0,.int .u8 0,.int .u8 0,.int .u8 0,.int .u8 0,.int .u8 0,.int .u8 0,.int .u8 0,.int .u8 0,.int .u8 0,.int .u8 0,.int .u8 0,.int .u8 0,.int .u8 0,.int .u8 0,.int .u8 0,.int .u8 0,.int .u8 0,.int .u8 0,.int .u8 0] 92)=w1 at hst⊢;obtain⟨hk,hbx,hsz⟩:=hst;have HK:Hid (KW w (w.heap.size+2) (fun _=>0) w1):=hk;clear hk;refine(HN.out _).mono ?_;rintro e w2 ⟨rfl,hw⟩;rw[hw];clear hw
 go_wp2_with fail
 refine(HM.out _).mono ?_;rintro e w2 ⟨rfl,hw⟩;rw[hw];clear hw
 go_wp2_with (first|refine wpList_load_mid rfl 92 _ rfl (w.heap.size+2) 0 rfl Z24 _ HK.out.range underlying92 rfl (by rw[zAJ];kernel_rfl) ?_|refine wpList_store_mid rfl 92 _ _ rfl (w.heap.size+1) 0 Z24.toArray rfl rfl HK.out.rb (by kernel_rfl) zBj ?_)
 refine bodyPost_ret_by (v:=.tuple #[.agg Z24.toArray,.int .i64 73]) (zBU _ _ (w.heap.size+1) Z24 73 rfl rfl (World.rangeAt_setCells_same _ _ _ _ HK.out.rb) zAJ) rfl ⟨rfl,G.setCells _ HK.out.gg (by omega)⟩
theorem zU6(l m:ByteArray)(k a b:Int)(s:ByteArray)(id:Int)(h1:zAZ l)(h2:zAY m=false)(w:World):CG 71 #[.string l,.string m,V k a b s,.int .i64 id] w (.tuple #[.agg Z24.toArray,.int .i64 73]):=by
 have HN:Hid (∀w,Calls prog 67 #[.string l] w fun e w'=>e=.returned (.tuple #[.int .i64 (zAo l 8),.int .i64 0])∧w'=w):=zBe l h1;generalize zAo l 8=pl at HN;have HM:Hid (∀w,Calls prog 67 #[.string m] w fun e w'=>e=.returned (.tuple #[.int .i64 0,.int .i64 73])∧w'=w):=zFo m h2;clear h1 h2;have hst:=zA4 w k a b s
 go_enter func71,ntmps71
 go_wp2_with fail
 generalize ((w.alloc (.cells #[I k,I a,I b,.string s] 31)).alloc (.cells #[.int .u8 0,.int .u8 0,.int .u8 0,.int .u8 0,.int .u8 0,.int .u8 0,.int .u8 0,.int .u8 0,.int .u8 0,.int .u8 0,.int .u8 0,.int .u8 0,.int .u8 0,.int .u8 0,.int .u8 0,.int .u8 0,.int .u8 0,.int .u8 0,.int .u8 0,.int .u8 0,.int .u8 0,.int .u8 0,.int .u8 0,.int .u8 0] 92)).alloc (.cells #[.int .u8 0,.int .u8 0,.int .u8 0,.int .u8 0,.int .u8 0,.int .u8 0,.int .u8 0,.int .u8 0,.int .u8 0,.int .u8 0,.int .u8 0,.int .u8 0,.int .u8 0,.int .u8 0,.int .u8 0,.int .u8 0,.int .u8 0,.int .u8 0,.int .u8 0,.int .u8 0,.int .u8 0,.int .u8 0,.int .u8 0,.int .u8 0] 92)=w1 at hst⊢;obtain⟨hk,hbx,hsz⟩:=hst;have HK:Hid (KW w (w.heap.size+2) (fun _=>0) w1):=hk;clear hk;refine(HN.out _).mono ?_;rintro e w2 ⟨rfl,hw⟩;rw[hw];clear hw
 go_wp2_with fail
 refine(HM.out _).mono ?_;rintro e w2 ⟨rfl,hw⟩;rw[hw];clear hw
 go_wp2_with (first|refine wpList_load_mid rfl 92 _ rfl (w.heap.size+2) 0 rfl Z24 _ HK.out.range underlying92 rfl (by rw[zAJ];kernel_rfl) ?_|refine wpList_store_mid rfl 92 _ _ rfl (w.heap.size+1) 0 Z24.toArray rfl rfl HK.out.rb (by kernel_rfl) zBj ?_)
 refine bodyPost_ret_by (v:=.tuple #[.agg Z24.toArray,.int .i64 73]) (zBU _ _ (w.heap.size+1) Z24 73 rfl rfl (World.rangeAt_setCells_same _ _ _ _ HK.out.rb) zAJ) rfl ⟨rfl,G.setCells _ HK.out.gg (by omega)⟩
theorem zU5(l m:ByteArray)(k a b:Int)(s:ByteArray)(id:Int)(h1:zAY l=false)(h2:zAY m=false)(w:World):CG 71 #[.string l,.string m,V k a b s,.int .i64 id] w (.tuple #[.agg Z24.toArray,.int .i64 73]):=by
 have HN:Hid (∀w,Calls prog 67 #[.string l] w fun e w'=>e=.returned (.tuple #[.int .i64 0,.int .i64 73])∧w'=w):=zFo l h1;have HM:Hid (∀w,Calls prog 67 #[.string m] w fun e w'=>e=.returned (.tuple #[.int .i64 0,.int .i64 73])∧w'=w):=zFo m h2;clear h1 h2;have hst:=zA4 w k a b s
 go_enter func71,ntmps71
 go_wp2_with fail
 generalize ((w.alloc (.cells #[I k,I a,I b,.string s] 31)).alloc (.cells #[.int .u8 0,.int .u8 0,.int .u8 0,.int .u8 0,.int .u8 0,.int .u8 0,.int .u8 0,.int .u8 0,.int .u8 0,.int .u8 0,.int .u8 0,.int .u8 0,.int .u8 0,.int .u8 0,.int .u8 0,.int .u8 0,.int .u8 0,.int .u8 0,.int .u8 0,.int .u8 0,.int .u8 0,.int .u8 0,.int .u8 0,.int .u8 0] 92)).alloc (.cells #[.int .u8 0,.int .u8 0,.int .u8 0,.int .u8 0,.int .u8 0,.int .u8 0,.int .u8 0,.int .u8 0,.int .u8 0,.int .u8 0,.int .u8 0,.int .u8 0,.int .u8 0,.int .u8 0,.int .u8 0,.int .u8 0,.int .u8 0,.int .u8 0,.int .u8 0,.int .u8 0,.int .u8 0,.int .u8 0,.int .u8 0,.int .u8 0] 92)=w1 at hst⊢;obtain⟨hk,hbx,hsz⟩:=hst;have HK:Hid (KW w (w.heap.size+2) (fun _=>0) w1):=hk;clear hk;refine(HN.out _).mono ?_;rintro e w2 ⟨rfl,hw⟩;rw[hw];clear hw
 go_wp2_with fail
 refine(HM.out _).mono ?_;rintro e w2 ⟨rfl,hw⟩;rw[hw];clear hw
 go_wp2_with (first|refine wpList_load_mid rfl 92 _ rfl (w.heap.size+2) 0 rfl Z24 _ HK.out.range underlying92 rfl (by rw[zAJ];kernel_rfl) ?_|refine wpList_store_mid rfl 92 _ _ rfl (w.heap.size+1) 0 Z24.toArray rfl rfl HK.out.rb (by kernel_rfl) zBj ?_)
 refine bodyPost_ret_by (v:=.tuple #[.agg Z24.toArray,.int .i64 73]) (zBU _ _ (w.heap.size+1) Z24 73 rfl rfl (World.rangeAt_setCells_same _ _ _ _ HK.out.rb) zAJ) rfl ⟨rfl,G.setCells _ HK.out.gg (by omega)⟩
theorem zSi(l m:ByteArray)(k a b:Int)(s:ByteArray)(id:Int)(h1:zAZ l)(h2:zAZ m)(h3:okV k a b s=false)(hs:s.size≤4611686018427387904)(w:World):CG 71 #[.string l,.string m,V k a b s,.int .i64 id] w (.tuple #[.agg Z24.toArray,.int .i64 16]):=by
 have HN:Hid (∀w,Calls prog 67 #[.string l] w fun e w'=>e=.returned (.tuple #[.int .i64 (zAo l 8),.int .i64 0])∧w'=w):=zBe l h1;generalize zAo l 8=pl at HN;have HM:Hid (∀w,Calls prog 67 #[.string m] w fun e w'=>e=.returned (.tuple #[.int .i64 (zAo m 8),.int .i64 0])∧w'=w):=zBe m h2;generalize zAo m 8=pm at HM;clear h1 h2;have HV:Hid (∀w,CG 26 #[V k a b s] w (.bool (okV k a b s))):=zAm k a b s hs;rw[h3] at HV;have hst:=zA4 w k a b s
 go_enter func71,ntmps71
 go_wp2_with fail
 generalize ((w.alloc (.cells #[I k,I a,I b,.string s] 31)).alloc (.cells #[.int .u8 0,.int .u8 0,.int .u8 0,.int .u8 0,.int .u8 0,.int .u8 0,.int .u8 0,.int .u8 0,.int .u8 0,.int .u8 0,.int .u8 0,.int .u8 0,.int .u8 0,.int .u8 0,.int .u8 0,.int .u8 0,.int .u8 0,.int .u8 0,.int .u8 0,.int .u8 0,.int .u8 0,.int .u8 0,.int .u8 0,.int .u8 0] 92)).alloc (.cells #[.int .u8 0,.int .u8 0,.int .u8 0,.int .u8 0,.int .u8 0,.int .u8 0,.int .u8 0,.int .u8 0,.int .u8 0,.int .u8 0,.int .u8 0,.int .u8 0,.int .u8 0,.int .u8 0,.int .u8 0,.int .u8 0,.int .u8 0,.int .u8 0,.int .u8 0,.int .u8 0,.int .u8 0,.int .u8 0,.int .u8 0,.int .u8 0] 92)=w1 at hst⊢;obtain⟨hk,hbx,hsz⟩:=hst;have HK:Hid (KW w (w.heap.size+2) (fun _=>0) w1):=hk;clear hk;refine(HN.out _).mono ?_;rintro e w2 ⟨rfl,hw⟩;rw[hw];clear hw
 go_wp2_with fail
 refine(HM.out _).mono ?_;rintro e w2 ⟨rfl,hw⟩;rw[hw];clear hw
 go_wp2_with fail
 refine(HV.out _).mono ?_;rintro e w2 ⟨rfl,hb⟩
 replace HK:Hid (KW w (w.heap.size+2) (fun _=>0) w2):=KW.keep HK.out hb
 replace hbx:∀o,w2.cell? {block:=w.heap.size,off:=o}=[I k,I a,I b,.string s][o]?:=G.cells hb hbx (by omega)
 replace hsz:w.heap.size+3≤w2.heap.size:=Nat.le_trans (by omega) hb.size
 clear hb
 go_wp2_with (first|refine wpList_load_mid rfl 92 _ rfl (w.heap.size+2) 0 rfl Z24 _ HK.out.range underlying92 rfl (by rw[zAJ];kernel_rfl) ?_|refine wpList_store_mid rfl 92 _ _ rfl (w.heap.size+1) 0 Z24.toArray rfl rfl HK.out.rb (by kernel_rfl) zBj ?_)
 refine bodyPost_ret_by (v:=.tuple #[.agg Z24.toArray,.int .i64 16]) (zBU _ _ (w.heap.size+1) Z24 16 rfl rfl (World.rangeAt_setCells_same _ _ _ _ HK.out.rb) zAJ) rfl ⟨rfl,G.setCells _ HK.out.gg (by omega)⟩
theorem zOO(l m:ByteArray)(k a b:Int)(s:ByteArray)(id:Int)(h1:zAZ l)(h2:zAZ m)(h3:okV k a b s=true)(h4:stoV k a b s=false)(hs:s.size≤4611686018427387904)(w:World):CG 71 #[.string l,.string m,V k a b s,.int .i64 id] w (.tuple #[.agg Z24.toArray,.int .i64 10]):=by
 have HN:Hid (∀w,Calls prog 67 #[.string l] w fun e w'=>e=.returned (.tuple #[.int .i64 (zAo l 8),.int .i64 0])∧w'=w):=zBe l h1;generalize zAo l 8=pl at HN;have HM:Hid (∀w,Calls prog 67 #[.string m] w fun e w'=>e=.returned (.tuple #[.int .i64 (zAo m 8),.int .i64 0])∧w'=w):=zBe m h2;generalize zAo m 8=pm at HM;clear h1 h2;have HV:Hid (∀w,CG 26 #[V k a b s] w (.bool (okV k a b s))):=zAm k a b s hs;rw[h3] at HV;have HS:Hid (∀w,CG 32 #[V k a b s] w (.bool (stoV k a b s))):=zEs k a b s hs;rw[h4] at HS;have hst:=zA4 w k a b s
 go_enter func71,ntmps71
 go_wp2_with fail
 generalize ((w.alloc (.cells #[I k,I a,I b,.string s] 31)).alloc (.cells #[.int .u8 0,.int .u8 0,.int .u8 0,.int .u8 0,.int .u8 0,.int .u8 0,.int .u8 0,.int .u8 0,.int .u8 0,.int .u8 0,.int .u8 0,.int .u8 0,.int .u8 0,.int .u8 0,.int .u8 0,.int .u8 0,.int .u8 0,.int .u8 0,.int .u8 0,.int .u8 0,.int .u8 0,.int .u8 0,.int .u8 0,.int .u8 0] 92)).alloc (.cells #[.int .u8 0,.int .u8 0,.int .u8 0,.int .u8 0,.int .u8 0,.int .u8 0,.int .u8 0,.int .u8 0,.int .u8 0,.int .u8 0,.int .u8 0,.int .u8 0,.int .u8 0,.int .u8 0,.int .u8 0,.int .u8 0,.int .u8 0,.int .u8 0,.int .u8 0,.int .u8 0,.int .u8 0,.int .u8 0,.int .u8 0,.int .u8 0] 92)=w1 at hst⊢;obtain⟨hk,hbx,hsz⟩:=hst;have HK:Hid (KW w (w.heap.size+2) (fun _=>0) w1):=hk;clear hk;refine(HN.out _).mono ?_;rintro e w2 ⟨rfl,hw⟩;rw[hw];clear hw
 go_wp2_with fail
 refine(HM.out _).mono ?_;rintro e w2 ⟨rfl,hw⟩;rw[hw];clear hw
 go_wp2_with fail
 refine(HV.out _).mono ?_;rintro e w2 ⟨rfl,hb⟩
 replace HK:Hid (KW w (w.heap.size+2) (fun _=>0) w2):=KW.keep HK.out hb
 replace hbx:∀o,w2.cell? {block:=w.heap.size,off:=o}=[I k,I a,I b,.string s][o]?:=G.cells hb hbx (by omega)
 replace hsz:w.heap.size+3≤w2.heap.size:=Nat.le_trans (by omega) hb.size
 clear hb
 go_wp2_with fail
 refine(HS.out _).mono ?_;rintro e w3 ⟨rfl,hb⟩
 replace HK:Hid (KW w (w.heap.size+2) (fun _=>0) w3):=KW.keep HK.out hb
 replace hbx:∀o,w3.cell? {block:=w.heap.size,off:=o}=[I k,I a,I b,.string s][o]?:=G.cells hb hbx (by omega)
 replace hsz:w.heap.size+3≤w3.heap.size:=Nat.le_trans (by omega) hb.size
 clear hb
 go_wp2_with (first|refine wpList_load_mid rfl 92 _ rfl (w.heap.size+2) 0 rfl Z24 _ HK.out.range underlying92 rfl (by rw[zAJ];kernel_rfl) ?_|refine wpList_store_mid rfl 92 _ _ rfl (w.heap.size+1) 0 Z24.toArray rfl rfl HK.out.rb (by kernel_rfl) zBj ?_)
 refine bodyPost_ret_by (v:=.tuple #[.agg Z24.toArray,.int .i64 10]) (zBU _ _ (w.heap.size+1) Z24 10 rfl rfl (World.rangeAt_setCells_same _ _ _ _ HK.out.rb) zAJ) rfl ⟨rfl,G.setCells _ HK.out.gg (by omega)⟩
theorem zU8(l m:ByteArray)(k a b:Int)(s:ByteArray)(id:Int)(h1:zAZ l)(h2:zAZ m)(h3:okV k a b s=true)(h4:stoV k a b s=true)(h5:id<1)(hs:s.size≤4611686018427387904)(w:World):CG 71 #[.string l,.string m,V k a b s,.int .i64 id] w (.tuple #[.agg Z24.toArray,.int .i64 1]):=by
 have HN:Hid (∀w,Calls prog 67 #[.string l] w fun e w'=>e=.returned (.tuple #[.int .i64 (zAo l 8),.int .i64 0])∧w'=w):=zBe l h1;generalize zAo l 8=pl at HN;have HM:Hid (∀w,Calls prog 67 #[.string m] w fun e w'=>e=.returned (.tuple #[.int .i64 (zAo m 8),.int .i64 0])∧w'=w):=zBe m h2;generalize zAo m 8=pm at HM;clear h1 h2;have HV:Hid (∀w,CG 26 #[V k a b s] w (.bool (okV k a b s))):=zAm k a b s hs;rw[h3] at HV;have HS:Hid (∀w,CG 32 #[V k a b s] w (.bool (stoV k a b s))):=zEs k a b s hs;rw[h4] at HS;have hst:=zA4 w k a b s
 go_enter func71,ntmps71
 go_wp2_with fail
 generalize ((w.alloc (.cells #[I k,I a,I b,.string s] 31)).alloc (.cells #[.int .u8 0,.int .u8 0,.int .u8 0,.int .u8 0,.int .u8 0,.int .u8 0,.int .u8 0,.int .u8 0,.int .u8 0,.int .u8 0,.int .u8 0,.int .u8 0,.int .u8 0,.int .u8 0,.int .u8 0,.int .u8 0,.int .u8 0,.int .u8 0,.int .u8 0,.int .u8 0,.int .u8 0,.int .u8 0,.int .u8 0,.int .u8 0] 92)).alloc (.cells #[.int .u8 0,.int .u8 0,.int .u8 0,.int .u8 0,.int .u8 0,.int .u8 0,.int .u8 0,.int .u8 0,.int .u8 0,.int .u8 0,.int .u8 0,.int .u8 0,.int .u8 0,.int .u8 0,.int .u8 0,.int .u8 0,.int .u8 0,.int .u8 0,.int .u8 0,.int .u8 0,.int .u8 0,.int .u8 0,.int .u8 0,.int .u8 0] 92)=w1 at hst⊢;obtain⟨hk,hbx,hsz⟩:=hst;have HK:Hid (KW w (w.heap.size+2) (fun _=>0) w1):=hk;clear hk;refine(HN.out _).mono ?_;rintro e w2 ⟨rfl,hw⟩;rw[hw];clear hw
 go_wp2_with fail
 refine(HM.out _).mono ?_;rintro e w2 ⟨rfl,hw⟩;rw[hw];clear hw
 go_wp2_with fail
 refine(HV.out _).mono ?_;rintro e w2 ⟨rfl,hb⟩
 replace HK:Hid (KW w (w.heap.size+2) (fun _=>0) w2):=KW.keep HK.out hb
 replace hbx:∀o,w2.cell? {block:=w.heap.size,off:=o}=[I k,I a,I b,.string s][o]?:=G.cells hb hbx (by omega)
 replace hsz:w.heap.size+3≤w2.heap.size:=Nat.le_trans (by omega) hb.size
 clear hb
 go_wp2_with fail
 refine(HS.out _).mono ?_;rintro e w3 ⟨rfl,hb⟩
 replace HK:Hid (KW w (w.heap.size+2) (fun _=>0) w3):=KW.keep HK.out hb
 replace hbx:∀o,w3.cell? {block:=w.heap.size,off:=o}=[I k,I a,I b,.string s][o]?:=G.cells hb hbx (by omega)
 replace hsz:w.heap.size+3≤w3.heap.size:=Nat.le_trans (by omega) hb.size
 clear hb
 go_wp2_with (first|refine wpList_load_mid rfl 92 _ rfl (w.heap.size+2) 0 rfl Z24 _ HK.out.range underlying92 rfl (by rw[zAJ];kernel_rfl) ?_|refine wpList_store_mid rfl 92 _ _ rfl (w.heap.size+1) 0 Z24.toArray rfl rfl HK.out.rb (by kernel_rfl) zBj ?_)
 refine bodyPost_ret_by (v:=.tuple #[.agg Z24.toArray,.int .i64 1]) (zBU _ _ (w.heap.size+1) Z24 1 rfl rfl (World.rangeAt_setCells_same _ _ _ _ HK.out.rb) zAJ) rfl ⟨rfl,G.setCells _ HK.out.gg (by omega)⟩
theorem zU9(l m:ByteArray)(k a b:Int)(s:ByteArray)(id:Int)(h1:zAZ l)(h2:zAZ m)(h3:okV k a b s=true)(h4:stoV k a b s=true)(h5:4294967295<id)(hs:s.size≤4611686018427387904)(w:World):CG 71 #[.string l,.string m,V k a b s,.int .i64 id] w (.tuple #[.agg Z24.toArray,.int .i64 1]):=by
 have HN:Hid (∀w,Calls prog 67 #[.string l] w fun e w'=>e=.returned (.tuple #[.int .i64 (zAo l 8),.int .i64 0])∧w'=w):=zBe l h1;generalize zAo l 8=pl at HN;have HM:Hid (∀w,Calls prog 67 #[.string m] w fun e w'=>e=.returned (.tuple #[.int .i64 (zAo m 8),.int .i64 0])∧w'=w):=zBe m h2;generalize zAo m 8=pm at HM;clear h1 h2;have HV:Hid (∀w,CG 26 #[V k a b s] w (.bool (okV k a b s))):=zAm k a b s hs;rw[h3] at HV;have HS:Hid (∀w,CG 32 #[V k a b s] w (.bool (stoV k a b s))):=zEs k a b s hs;rw[h4] at HS;have hst:=zA4 w k a b s
 go_enter func71,ntmps71
 go_wp2_with fail
 generalize ((w.alloc (.cells #[I k,I a,I b,.string s] 31)).alloc (.cells #[.int .u8 0,.int .u8 0,.int .u8 0,.int .u8 0,.int .u8 0,.int .u8 0,.int .u8 0,.int .u8 0,.int .u8 0,.int .u8 0,.int .u8 0,.int .u8 0,.int .u8 0,.int .u8 0,.int .u8 0,.int .u8 0,.int .u8 0,.int .u8 0,.int .u8 0,.int .u8 0,.int .u8 0,.int .u8 0,.int .u8 0,.int .u8 0] 92)).alloc (.cells #[.int .u8 0,.int .u8 0,.int .u8 0,.int .u8 0,.int .u8 0,.int .u8 0,.int .u8 0,.int .u8 0,.int .u8 0,.int .u8 0,.int .u8 0,.int .u8 0,.int .u8 0,.int .u8 0,.int .u8 0,.int .u8 0,.int .u8 0,.int .u8 0,.int .u8 0,.int .u8 0,.int .u8 0,.int .u8 0,.int .u8 0,.int .u8 0] 92)=w1 at hst⊢;obtain⟨hk,hbx,hsz⟩:=hst;have HK:Hid (KW w (w.heap.size+2) (fun _=>0) w1):=hk;clear hk;refine(HN.out _).mono ?_;rintro e w2 ⟨rfl,hw⟩;rw[hw];clear hw
 go_wp2_with fail
 refine(HM.out _).mono ?_;rintro e w2 ⟨rfl,hw⟩;rw[hw];clear hw
 go_wp2_with fail
 refine(HV.out _).mono ?_;rintro e w2 ⟨rfl,hb⟩
 replace HK:Hid (KW w (w.heap.size+2) (fun _=>0) w2):=KW.keep HK.out hb
 replace hbx:∀o,w2.cell? {block:=w.heap.size,off:=o}=[I k,I a,I b,.string s][o]?:=G.cells hb hbx (by omega)
 replace hsz:w.heap.size+3≤w2.heap.size:=Nat.le_trans (by omega) hb.size
 clear hb
 go_wp2_with fail
 refine(HS.out _).mono ?_;rintro e w3 ⟨rfl,hb⟩
 replace HK:Hid (KW w (w.heap.size+2) (fun _=>0) w3):=KW.keep HK.out hb
 replace hbx:∀o,w3.cell? {block:=w.heap.size,off:=o}=[I k,I a,I b,.string s][o]?:=G.cells hb hbx (by omega)
 replace hsz:w.heap.size+3≤w3.heap.size:=Nat.le_trans (by omega) hb.size
 clear hb
 go_wp2_with (first|refine wpList_load_mid rfl 92 _ rfl (w.heap.size+2) 0 rfl Z24 _ HK.out.range underlying92 rfl (by rw[zAJ];kernel_rfl) ?_|refine wpList_store_mid rfl 92 _ _ rfl (w.heap.size+1) 0 Z24.toArray rfl rfl HK.out.rb (by kernel_rfl) zBj ?_)
 refine bodyPost_ret_by (v:=.tuple #[.agg Z24.toArray,.int .i64 1]) (zBU _ _ (w.heap.size+1) Z24 1 rfl rfl (World.rangeAt_setCells_same _ _ _ _ HK.out.rb) zAJ) rfl ⟨rfl,G.setCells _ HK.out.gg (by omega)⟩
end
section
open Go.RowKit Go.Shelf Go.PlainAid Go.Lib
theorem KW.congr{w:World}{g:Nat}{f f':Nat→Nat}{W:World}(h:KW w g f W)(hf:∀j,j<24→f j=f' j):KW w g f' W:=
 ⟨h.gg,h.rb,fun j hj=>by rw[←hf j hj];exact h.c j hj,h.fz,h.lo,h.hi⟩
theorem KW.set{w:World}{g:Nat}{f:Nat→Nat}{W:World}(h:KW w g f W)(i d:Nat)(hi:i<24):KW w g (fun j=>if j=i then d else f j) (W.setCell ⟨g,i,none⟩ (bv d)):=by
 have:=h.cells (off:=i) [d] (by simp;omega);refine KW.congr this fun j _=>?_
 by_cases hj:j=i
 ·subst hj;simp
 ·rw[if_neg hj,if_neg (by simp;omega)]
def twoF(pl pm k:Nat):Nat→Nat:=fun j=>if 6-k≤j∧j<6 then pl/256^(5-j)%256 else if 12-k≤j∧j<12 then pm/256^(11-j)%256 else 0
theorem zLg(pl pm k i:Nat)(hk:k<6)(hi:i=5-k)(j:Nat):(if j=6+i then pm/256^k%256 else if j=i then pl/256^k%256 else twoF pl pm k j)=twoF pl pm (k+1) j:=by
 subst hi;unfold twoF
 by_cases h1:j=6+(5-k)
 ·subst h1;rw[if_pos rfl,if_neg (by omega),if_pos (by omega),show 11-(6+(5-k))=k by omega]
 rw[if_neg h1]
 by_cases h2:j=5-k
 ·subst h2;rw[if_pos rfl,if_pos (by omega),show 5-(5-k)=k by omega]
 rw[if_neg h2]
 by_cases h3:6-k≤j∧j<6
 ·rw[if_pos h3,if_pos (by omega)]
 rw[if_neg h3,if_neg (show¬(6-(k+1)≤j∧j<6) by omega)]
 by_cases h4:12-k≤j∧j<12
 ·rw[if_pos h4,if_pos (by omega)]
 rw[if_neg h4,if_neg (by omega)]
theorem zOk(pl pm:Nat)(j:Nat)(_:j<24):twoF pl pm 6 j=putF 6 6 pm (putF 0 6 pl fun _=>0) j:=by
 unfold twoF putF
 by_cases h1:6≤j∧j<12
 ·rw[if_neg (by omega),if_pos (by omega),if_pos (by omega),show 6-1-(j-6)=11-j by omega]
 by_cases h2:j<6
 ·rw[if_pos (show 6-6≤j∧j<6 by omega),if_neg (show¬(6≤j∧j<6+6) by omega)]
  try rw[if_pos (show 0≤j∧j<0+6 by omega)]
  rw[show 6-1-(j-0)=5-j by omega]
 rw[if_neg (by omega),if_neg (by omega)]
 try rw[if_neg (by omega)]
 try rw[if_neg (by omega)]
theorem zNf(ys:List Nat)(f:Nat→Nat)(k d:Nat)(hd:ys[k]?=some d)(j:Nat):(if j=12+k then d else layF 12 (ys.take k) f j)=layF 12 (ys.take (k+1)) f j:=by
 have hk:k<ys.length:=(List.getElem?_eq_some_iff.1 hd).1;unfold layF;rw[List.length_take,List.length_take,Nat.min_eq_left (by omega),Nat.min_eq_left (by omega)]
 by_cases h1:j=12+k
 ·subst h1
  rw[if_pos rfl,if_pos (by omega),List.getD_eq_getElem?_getD,List.getElem?_take,if_pos (by omega),show 12+k-12=k by omega,hd];rfl
 rw[if_neg h1]
 by_cases h2:12≤j∧j<12+k
 ·rw[if_pos h2,if_pos (by omega)]
  simp only[List.getD_eq_getElem?_getD,List.getElem?_take];rw[if_pos (by omega),if_pos (by omega)]
 ·rw[if_neg h2,if_neg (by omega)]
def zHt(x k:Nat)(f:Nat→Nat):Nat→Nat:=fun j=>if 24-k≤j∧j<24 then x/256^(23-j)%256 else f j
theorem zJV(x k i:Nat)(f:Nat→Nat)(hk:k<4)(hi:i=23-k)(j:Nat):(if j=i then x/256^k%256 else zHt x k f j)=zHt x (k+1) f j:=by
 subst hi;unfold zHt
 by_cases h1:j=23-k
 ·subst h1;rw[if_pos rfl,if_pos (by omega),show 23-(23-k)=k by omega]
 rw[if_neg h1]
 by_cases h2:24-k≤j∧j<24
 ·rw[if_pos h2,if_pos (by omega)]
 ·rw[if_neg h2,if_neg (by omega)]
theorem zJW(x:Nat)(f:Nat→Nat)(j:Nat)(_:j<24):zHt x 4 f j=putF 20 4 x f j:=by
 unfold zHt putF
 by_cases h1:20≤j
 ·rw[if_pos (by omega),if_pos (by omega),show 4-1-(j-20)=23-j by omega]
 ·rw[if_neg (by omega),if_neg (by omega)]
theorem zSh(l m:ByteArray)(k a b:Int)(s:ByteArray)(id:Nat)(h1:zAZ l)(h2:zAZ m)(h3:okV k a b s=true)(h4:stoV k a b s=true)(h5:1≤id)(h6:id≤4294967295)(ha:R64 a)(hs:s.size≤4611686018427387904)(w:World) :
  Calls prog 71 #[.string l,.string m,V k a b s,.int .i64 id] w fun e w'=>∃pl pm:Nat,(pl:Int)=zAo l 8∧(pm:Int)=zAo m 8∧e=.returned (.tuple #[.agg (cellsOf (keyF pl pm (encV k a b s) id)).toArray,.int .i64 0])∧G w w':=by
 have HN:Hid (∀w,Calls prog 67 #[.string l] w fun e w'=>e=.returned (.tuple #[.int .i64 (zAo l 8),.int .i64 0])∧w'=w):=zBe l h1;have HM:Hid (∀w,Calls prog 67 #[.string m] w fun e w'=>e=.returned (.tuple #[.int .i64 (zAo m 8),.int .i64 0])∧w'=w):=zBe m h2;have HV:Hid (∀w,CG 26 #[V k a b s] w (.bool (okV k a b s))):=zAm k a b s hs;rw[h3] at HV;have HS:Hid (∀w,CG 32 #[V k a b s] w (.bool (stoV k a b s))):=zEs k a b s hs;rw[h4] at HS;obtain⟨pl,hpl⟩:∃n:Nat,zAo l 8=n:=⟨(zAo l 8).toNat,by have:=(zBf l h1 8).1;omega⟩
 have bl:pl<3512479453921:=by have:=(zBf l h1 8).2;rw[hpl] at this;omega
 obtain⟨pm,hpm⟩:∃n:Nat,zAo m 8=n:=⟨(zAo m 8).toNat,by have:=(zBf m h2 8).1;omega⟩
 have bm:pm<3512479453921:=by have:=(zBf m h2 8).2;rw[hpm] at this;omega
 rw[hpl] at HN;rw[hpm] at HM;refine(?_:Calls prog 71 #[.string l,.string m,V k a b s,.int .i64 id] w fun e w'=>e=.returned (.tuple #[.agg (cellsOf (keyF pl pm (encV k a b s) id)).toArray,.int .i64 0])∧G w w').mono (fun e w' h=>⟨pl,pm,hpl.symm,hpm.symm,h⟩);have hne:=zJq k a b s;have HE:Hid (∀w,Calls prog 9 #[V k a b s] w fun e w'=>∃x',e=.returned (.tuple #[x',.int .i64 0])∧Bw w w' x' (encV k a b s)):=zFQ k a b s hs h3 ha;generalize encV k a b s=ys at HE hne⊢;clear h1 h2 h3 h4 ha hs hpl hpm;have hst:=zA4 w k a b s
 go_enter func71,ntmps71
 go_wp2_with fail
 generalize ((w.alloc (.cells #[I k,I a,I b,.string s] 31)).alloc (.cells #[.int .u8 0,.int .u8 0,.int .u8 0,.int .u8 0,.int .u8 0,.int .u8 0,.int .u8 0,.int .u8 0,.int .u8 0,.int .u8 0,.int .u8 0,.int .u8 0,.int .u8 0,.int .u8 0,.int .u8 0,.int .u8 0,.int .u8 0,.int .u8 0,.int .u8 0,.int .u8 0,.int .u8 0,.int .u8 0,.int .u8 0,.int .u8 0] 92)).alloc (.cells #[.int .u8 0,.int .u8 0,.int .u8 0,.int .u8 0,.int .u8 0,.int .u8 0,.int .u8 0,.int .u8 0,.int .u8 0,.int .u8 0,.int .u8 0,.int .u8 0,.int .u8 0,.int .u8 0,.int .u8 0,.int .u8 0,.int .u8 0,.int .u8 0,.int .u8 0,.int .u8 0,.int .u8 0,.int .u8 0,.int .u8 0,.int .u8 0] 92)=w1 at hst⊢;obtain⟨hk,hbx,hsz⟩:=hst;have HK:Hid (KW w (w.heap.size+2) (fun _=>0) w1):=hk;clear hk;refine(HN.out _).mono ?_;rintro e w2 ⟨rfl,hw⟩;rw[hw];clear hw
 go_wp2_with fail
 refine(HM.out _).mono ?_;rintro e w2 ⟨rfl,hw⟩;rw[hw];clear hw
 go_wp2_with fail
 refine(HV.out _).mono ?_;rintro e w2 ⟨rfl,hb⟩
 replace HK:Hid (KW w (w.heap.size+2) (fun _=>0) w2):=KW.keep HK.out hb
 replace hbx:∀o,w2.cell? {block:=w.heap.size,off:=o}=[I k,I a,I b,.string s][o]?:=G.cells hb hbx (by omega)
 replace hsz:w.heap.size+3≤w2.heap.size:=Nat.le_trans (by omega) hb.size
 clear hb
 go_wp2_with fail
 refine(HS.out _).mono ?_;rintro e w3 ⟨rfl,hb⟩
 replace HK:Hid (KW w (w.heap.size+2) (fun _=>0) w3):=KW.keep HK.out hb
 replace hbx:∀o,w3.cell? {block:=w.heap.size,off:=o}=[I k,I a,I b,.string s][o]?:=G.cells hb hbx (by omega)
 replace hsz:w.heap.size+3≤w3.heap.size:=Nat.le_trans (by omega) hb.size
 clear hb;clear HN HM HV HS
 go_wp2_with fail
 refine(HE.out _).mono ?_;rintro e w4 ⟨x4,rfl,hB⟩;clear HE
 rcases hB.at with ⟨_,hy⟩|⟨g8,cap8,rfl,hg8,_,hcap,hcc⟩
 ·rw[hy] at hne;simp at hne
 have hgn:w.heap.size+2≠g8:=by omega
 have hk:KW w (w.heap.size+2) (fun _=>0) w4:=KW.keep HK.out hB.g;clear HK hbx hsz hB hg8;generalize w.heap.size+2=g at hk hgn⊢;have HK:Hid _:=hk;have HC:Hid _:=hcc;clear hk hcc
 go_wp2_with fail
 go_loopw [11,13,17] (fun a b i W=>∃k:Nat,k≤6∧i=.int .i64 (5-(k:Int))∧a=.int .i64 ((pl/256^k:Nat):Int)∧b=.int .i64 ((pm/256^k:Nat):Int)∧KW w g (twoF pl pm k) W∧∀i d,ys[i]?=some d→W.cell? ⟨g8,i,none⟩=some (bv d)) (fun _ _ i _=>(RowKit.intOf i+1).toNat)
 case atStart=>exact⟨0,by omega,by simp,by simp,by simp,HK.out.congr (fun j _=>by unfold twoF;rw[if_neg (by omega),if_neg (by omega)]),HC.out⟩
 case round=>
  obtain⟨k,hk,rfl,rfl,rfl,hR,hcc⟩:=hrel
  by_cases hlt:k<6
  ·obtain⟨j,hj⟩:∃j:Nat,5-(k:Int)=j:=⟨5-k,by omega⟩
   have hjj:j=5-k:=by omega
   have hu1:=hR.c j (by omega);have hu2:=hR.c (6+j) (by omega);have hf1:=hR.fz j (by omega);have hf2:=hR.fz (6+j) (by omega)
   have hjb:j≤5:=by omega
   obtain⟨p,hp⟩:∃p,p=pl/256^k:=⟨_,rfl⟩;obtain⟨q,hq⟩:∃q,q=pm/256^k:=⟨_,rfl⟩
   have hpb:p<3512479453921:=by rw[hp];exact Nat.lt_of_le_of_lt (Nat.div_le_self _ _) bl
   have hqb:q<3512479453921:=by rw[hq];exact Nat.lt_of_le_of_lt (Nat.div_le_self _ _) bm
   rw[hj,←hp,←hq];have HR:Hid _:=hR;have HCC:Hid _:=hcc;have HJ:Hid _:=hj;have HP:Hid _:=hp;have HQ:Hid _:=hq;have HL:Hid _:=hlt;clear hR hcc HK HC hjj hj hp hq hlt hk
   go_wp2
   go_roundw
   case rel=>
    have e1:(p:Int)%256=((p%256:Nat):Int):=by omega
    have e2:(q:Int)%256=((q%256:Nat):Int):=by omega
    have hj:=HJ.out;have hlt:=HL.out;refine⟨k+1,by omega,by congr 1;omega,by congr 1;rw[Nat.pow_succ,←Nat.div_div_eq_div_mul,←HP.out];omega,by congr 1;rw[Nat.pow_succ,←Nat.div_div_eq_div_mul,←HQ.out];omega,?_,fun i d hd=>?_⟩
    ·rw[e1,e2]
     refine KW.congr (KW.set (KW.set HR.out j (p%256) (by omega)) (6+j) (q%256) (by omega)) fun i _=>?_;have:=zLg pl pm k j hlt (by omega) i;rw[←HP.out,←HQ.out] at this;exact this
    ·rw[World.cell?_setCell_other _ _ _ _ (by intro he;cases he;exact hgn rfl),World.cell?_setCell_other _ _ _ _ (by intro he;cases he;exact hgn rfl)]
     exact HCC.out i d hd
   case measure=>simp[RowKit.intOf];try omega
  ·have e:k=6:=by omega
   subst e;have hR2:KW w g (putF 6 6 pm (putF 0 6 pl fun _=>0)) wr:=hR.congr (zOk pl pm)
   have e1:(5:Int)-((6:Nat):Int) = -1:=by omega
   rw[e1];generalize pl/256^6=p6;generalize pm/256^6=q6;obtain⟨F1,hF1⟩:∃F,F=putF 6 6 pm (putF 0 6 pl fun _=>0):=⟨_,rfl⟩;rw[←hF1] at hR2;have HF1:Hid _:=hF1;have HK:Hid _:=hR2;have HC:Hid _:=hcc;clear hR hR2 hcc hF1 hk hlt
   go_wp2
   go_loopw [18] (fun i W=>∃k:Nat,k≤8∧k≤ys.length∧i=.int .i64 (k:Int)∧KW w g (layF 12 (ys.take k) F1) W∧∀i d,ys[i]?=some d→W.cell? ⟨g8,i,none⟩=some (bv d)) (fun i _=>(8-RowKit.intOf i).toNat)
   case atStart=>exact⟨0,by omega,by omega,by simp,HK.out.congr (fun j _=>by unfold layF;rw[if_neg (by simp)]),HC.out⟩
   case round=>
    obtain⟨k,hk8,hkl,rfl,hR,hcc⟩:=hrel;clear HK HC
    by_cases hlt:k<8∧k<ys.length
    ·obtain⟨h8,hl⟩:=hlt
     obtain⟨d,hd⟩:∃d,ys[k]?=some d:=⟨_,List.getElem?_eq_getElem hl⟩;have hu1:=hR.c (12+k) (by omega);have hf1:=hR.fz (12+k) (by omega);have hu2:=hcc k d hd;have HD:Hid _:=hd;have HR:Hid _:=hR;have HCC:Hid _:=hcc;clear hR hcc hd
     go_wp2
     go_roundw
     case rel=>
      refine⟨k+1,by omega,by omega,by congr 1,?_,fun i e he=>?_⟩
      ·exact KW.congr (KW.set HR.out (12+k) d (by omega)) fun i _=>zNf ys F1 k d HD.out i
      ·rw[World.cell?_setCell_other _ _ _ _ (by intro he;cases he;exact hgn rfl)]
       exact HCC.out i e he
     case measure=>simp[RowKit.intOf];try omega
    ·have ht:ys.take k=ys.take 8:=by
      by_cases h8:k=8
      ·rw[h8]
      ·have:k=ys.length:=by omega
       rw[this,List.take_of_length_le (Nat.le_refl _),List.take_of_length_le (by omega)]
     rw[ht] at hR;obtain⟨F2,hF2⟩:∃F,F=layF 12 (ys.take 8) F1:=⟨_,rfl⟩;rw[←hF2] at hR;have HF2:Hid _:=hF2;have HK:Hid _:=hR;clear hcc hF2 hR ht
     have hz:k=8∨(k<8∧k=ys.length):=by omega
     clear hlt hk8 hkl
     rcases hz with rfl|⟨h8,rfl⟩
     all_goals
      go_wp2
      go_loopw [3,19] (fun x i W=>∃k:Nat,k≤4∧i=.int .i64 (23-(k:Int))∧x=.int .i64 ((id/256^k:Nat):Int)∧KW w g (zHt id k F2) W) (fun _ i _=>(RowKit.intOf i+1).toNat)
      case atStart=>exact⟨0,by omega,by simp,by simp,HK.out.congr (fun j _=>by unfold zHt;rw[if_neg (by omega)])⟩
      case round=>
       obtain⟨k,hk,rfl,rfl,hR⟩:=hrel;clear HK
       by_cases hlt:k<4
       ·obtain⟨j,hj⟩:∃j:Nat,23-(k:Int)=j:=⟨23-k,by omega⟩
        have hu1:=hR.c j (by omega);have hf1:=hR.fz j (by omega)
        have hjb:j≤23:=by omega
        have hja:20≤j:=by omega
        obtain⟨p,hp⟩:∃p,p=id/256^k:=⟨_,rfl⟩
        have hpb:p≤4294967295:=by rw[hp];exact Nat.le_trans (Nat.div_le_self _ _) h6
        rw[hj,←hp];have HR:Hid _:=hR;have HJ:Hid _:=hj;have HP:Hid _:=hp;have HL:Hid _:=hlt;clear hR hj hp hlt hk
        go_wp2
        go_roundw
        case rel=>
         have e1:(p:Int)%256=((p%256:Nat):Int):=by omega
         have hj:=HJ.out;have hlt:=HL.out;refine⟨k+1,by omega,by congr 1;omega,by congr 1;rw[Nat.pow_succ,←Nat.div_div_eq_div_mul,←HP.out];omega,?_⟩;rw[e1];refine KW.congr (KW.set HR.out j (p%256) (by omega)) fun i _=>?_;have:=zJV id k j F2 hlt (by omega) i;rw[←HP.out] at this;exact this
        case measure=>simp[RowKit.intOf];try omega
       ·have e:k=4:=by omega
        subst e
        have hk:KW w g (keyF pl pm ys id) wr:=by
         have:=hR.congr (zJW id F2);rw[HF2.out,HF1.out] at this;exact this
        have e1:(23:Int)-((4:Nat):Int)=19:=by omega
        rw[e1];generalize id/256^4=p4;obtain⟨F,hF⟩:∃F,F=keyF pl pm ys id:=⟨_,rfl⟩;rw[←hF] at hk;have HF:Hid _:=hF;have HK:Hid _:=hk
        have hcl:(cellsOf F).toArray.size=24:=by simp[cellsOf]
        have HL:Hid _:=hcl;clear hcl hF hk hR hlt
        go_wp2_with (first|refine wpList_load_mid rfl 92 _ rfl g 0 rfl (cellsOf F) _ HK.out.range underlying92 rfl (by rw[zAH];kernel_rfl) ?_|refine wpList_store_mid rfl 92 _ _ rfl (w.heap.size+1) 0 (cellsOf F).toArray rfl rfl (by rw[HL.out];exact HK.out.rb) (by rw[HL.out];kernel_rfl) (zCl F) ?_)
        refine bodyPost_ret_by (v:=.tuple #[.agg (cellsOf F).toArray,.int .i64 0]) (zBU _ _ (w.heap.size+1) (cellsOf F) 0 rfl rfl (World.rangeAt_setCells_same _ _ _ _ (by rw[zAH];exact HK.out.rb)) (zAH F)) rfl ⟨by rw[HF.out],G.setCells _ HK.out.gg (by omega)⟩
end
section
open Go.RowKit Go.Shelf Go.PlainAid Go.Lib
theorem zTe(F:Nat→Nat)(j:Nat)(hj:j<24)(w:World):(part 5 (cellsOf F).toArray (j*1)).run prog w=.ok (.int .u8 (F j:Nat)) w:=by
 have e:(cellsOf F).toArray[j*1]?=some (.int .u8 (F j:Nat)):=by
  rw[Nat.mul_one,List.getElem?_toArray];simp[cellsOf,hj,bv]
 exact run_part_plain w (by kernel_rfl) e
theorem zDZ(F:Nat→Nat)(w:World):∀is:List Nat,(∀j∈is,j<24)→(Op.eqItems 9999 5 1 (cellsOf F).toArray (cellsOf F).toArray is).run prog w=.ok true w
 | [],_=>by simp[Op.eqItems]
 | j::is,h=>by
  simp only[Op.eqItems,Sem.run_bind,zTe F j (h j (by simp)) w,Result.andThen_ok,run_equalIn_int w 9998 5 .u8 .u8 _ _ underlying5];simp;exact zDZ F w is (fun i hi=>h i (by simp[hi]))
theorem zYm(F:Nat→Nat)(w:World):(binOp .eql 93 (.agg (cellsOf F).toArray) (.agg (cellsOf F).toArray)).run prog w=.ok (.bool true) w:=by
 obtain⟨i0,hi,_⟩:=info_parts zAW
 have hc:prog.cellsOf 5=1:=by kernel_rfl
 rw[run_eql_struct,run_equalIn_array w 9999 _ _ underlying93 hi,hc,zDZ F w _ (by simp)];rfl
theorem zPN(l m:ByteArray)(k a b:Int)(s:ByteArray)(id:Int)(ha:R64 a)(hs:s.size≤4611686018427387904):∃(F:Nat→Nat) (c:Int),
  (∀w,Tabs w→CG 70 #[.string l,.string m,V k a b s,.int .i64 id] w (.tuple #[.agg (cellsOf F).toArray,.int .i64 c]))∧
  (∀w,CG 71 #[.string l,.string m,V k a b s,.int .i64 id] w (.tuple #[.agg (cellsOf F).toArray,.int .i64 c])):=by
 cases h1:zAY l
 ·cases h2:zAY m
  ·exact⟨fun _=>0,73,fun w _=>zV5 l m k a b s id h1 w,fun w=>zU5 l m k a b s id h1 h2 w⟩
  ·exact⟨fun _=>0,73,fun w _=>zV5 l m k a b s id h1 w,fun w=>zU7 l m k a b s id h1 ((zBh m).1 h2) w⟩
 have p1:=(zBh l).1 h1;cases h2:zAY m
 ·exact⟨fun _=>0,73,fun w _=>zXN l m k a b s id h1 h2 w,fun w=>zU6 l m k a b s id p1 h2 w⟩
 have p2:=(zBh m).1 h2;cases h3:okV k a b s
 ·exact⟨fun _=>0,16,fun w hT=>zV4 l m k a b s id h1 h2 h3 w hT,fun w=>zSi l m k a b s id p1 p2 h3 hs w⟩
 cases h4:stoV k a b s
 ·exact⟨fun _=>0,10,fun w hT=>zTD l m k a b s id h1 h2 h3 h4 w hT,fun w=>zOO l m k a b s id p1 p2 h3 h4 hs w⟩
 by_cases h5:id<1
 ·exact⟨fun _=>0,1,fun w hT=>zXO l m k a b s id h1 h2 h3 h4 h5 w hT,fun w=>zU8 l m k a b s id p1 p2 h3 h4 h5 hs w⟩
 by_cases h6:4294967295<id
 ·exact⟨fun _=>0,1,fun w hT=>zXP l m k a b s id h1 h2 h3 h4 h6 w hT,fun w=>zU9 l m k a b s id p1 p2 h3 h4 h6 hs w⟩
 obtain⟨n,rfl⟩:∃n:Nat,id=n:=⟨id.toNat,by omega⟩;refine⟨keyF (zAo l 8).toNat (zAo m 8).toNat (encV k a b s) n,0,fun w hT=>(zV3 l m k a b s n p1 p2 h3 h4 (by omega) (by omega) ha w hT).mono ?_,fun w=>(zSh l m k a b s n p1 p2 h3 h4 (by omega) (by omega) ha hs w).mono ?_⟩
 all_goals
  rintro e w' ⟨pl,pm,q1,q2,rfl,hg⟩;rw[show(zAo l 8).toNat=pl by omega,show(zAo m 8).toNat=pm by omega];exact⟨rfl,hg⟩
end
end Go.Proofs.YthmdjhfbhbheeaaGreatDoor
