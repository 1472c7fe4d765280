import Derived.Laws.AppendOwnNone
import Derived.Test.YthmdjhfbhbheeaaGreatDoorDec9
import Derived.Test.YthmdjhfbhbheeaaGreatDoorEnc9
import Derived.Test.YthmdjhfbhbheeaaGreatDoorFlNo
namespace Go.Proofs.YthmdjhfbhbheeaaGreatDoor
open Go.Proofs.Tryz
set_option maxHeartbeats 100000000
set_option maxRecDepth 100000
section
open Go.RowKit Go.Shelf Go.PlainAid Go.Lib
theorem zOs(xs ys:List Nat)(hx:∀d∈xs,d<256)(hy:∀d∈ys,d<256)(h:(strN xs).toList=(strN ys).toList):xs=ys:=by
 have e:∀l:List Nat,(strN l).toList=l.map UInt8.ofNat:=fun l=>by
  rw[show(strN l).toList=bytesOf (l.map fun d:Nat=>(d:Int))from strOfNums_toList _];simp[bytesOf]
 rw[e,e] at h
 induction xs generalizing ys with
 | nil=>cases ys with
  | nil=>rfl
  | cons y ys=>cases h
 | cons x xs ih=>
  cases ys with
  | nil=>cases h
  | cons y ys=>
   simp only[List.map_cons,List.cons.injEq] at h
   have h1:x=y:=by
    have:=congrArg UInt8.toNat h.1;have h2:=hx x (by simp);have h3:=hy y (by simp);simp at this;omega
   rw[h1,ih ys (fun d hd=>hx d (by simp[hd])) (fun d hd=>hy d (by simp[hd])) h.2]
theorem zN8(a:Addr):a.add 0=a:=rfl
theorem zDe(p:Option Addr)(n cap L:Nat)(h:L≤cap)(w:World):(Instr.slice 33 (.slice p n cap) none (some (.int .i64 (L:Int))) none).run prog w=.ok (.slice p L cap) w:=by
 have h1:(L:Int)≤(cap:Int):=by omega
 obtain⟨i0,hi,hz0,hz1,hz2⟩:=info_parts zAW;cases p<;>simp[hi,Instr.slice,Instr.sliceBounds,Instr.sliceBound,run_underlying underlying33,asIntOf,sizeOf,typeInfo,h,zN8]
theorem zOn{ys bs:List Nat}(h:ys.isPrefixOf bs=true):bs.take ys.length=ys:=by
 obtain⟨r,rfl⟩:=List.isPrefixOf_iff_prefix.1 h;simp
theorem zPq{ys bs:List Nat}(h:bs.take ys.length=ys):ys.isPrefixOf bs=true:=List.isPrefixOf_iff_prefix.2 (h▸List.take_prefix _ _)
theorem zTc{ys bs:List Nat}(h:ys.isPrefixOf bs=true):ys.length≤bs.length:=(List.isPrefixOf_iff_prefix.1 h).length_le
theorem zSo(p:Option Addr)(cap:Nat)(bs:List Nat)(w:World)(h0:bs.length=0):Calls prog 60 #[.slice p bs.length cap] w (DecA bs w):=by
 have HN:Hid (DAns bs 0 0 0 E0 0 15):=.inr ⟨fun k0 a0 b0 s0 rest g1 g2 _ g4=>by
  obtain⟨c,t,h1,_⟩:=zF5 k0 a0 b0 s0 g1 g2;rw[g4,h1] at h0
  simp at h0,rfl,rfl,rfl,rfl,rfl,rfl⟩
 rw[h0]
 go_enter func60,ntmps60
 go_wp2
 exact bodyPost_ret (v:=.tuple #[V0,.int .i64 0,.int .i64 15]) (by simp[results,results60,go_sem]) rfl ⟨0,0,0,E0,0,15,rfl,HN.out,by repeat(first|exact G.refl _|assumption|refine G.alloc ?_ _|refine G.drewNE ?_ _|refine G.drew ?_|refine G.setCell ?_ (by simp) _)⟩
theorem zOU(p:Option Addr)(cap:Nat)(bs:List Nat)(w:World)(hx:RowB w (.slice p bs.length cap) bs)(hb:∀d∈bs,d<256)(hl:bs.length≤140737488355328)(hcap:bs.length≤cap)(h0:0<bs.length):Calls prog 60 #[.slice p bs.length cap] w (DecA bs w):=by
 have H1:Hid (∀W,G w W→Calls prog 105 #[.slice p bs.length cap] W (GBA bs W)):=fun W g=>zVo _ bs W (hx.G g) hb hl h0;have HX:Hid (RowB w (.slice p bs.length cap) bs):=hx;have HB:Hid _:=hb;have hne:((bs.length:Int)==0)=false:=beq_false_of_ne (by omega);clear hb hx
 go_enter func60,ntmps60
 go_wp2_with fail
 refine(H1.out _ ((G.refl w).alloc _)).mono ?_;rintro e w1 ⟨k,a,b,s,rfl,ha,hb',hs,hp,hb1⟩;have hc1:∀o,w1.cell? {block:=w.heap.size,off:=o}=[I 0,I 0,I 0,.string E0][o]?:=G.cells hb1 (by simp) (by simp);have hf1:∀o,w1.frozen? {block:=w.heap.size,off:=o}=false:=G.frozens hb1 (by simp) (by simp)
 have hz1:w.heap.size<w1.heap.size:=by have:=hb1.size;simp at this;omega
 have HG1:Hid (G w w1):=((G.refl w).alloc _).trans hb1;have HP:Hid (zAu bs k a b s):=hp;clear hb1 H1 hp;cases hok:okV k a b s
 ·have HN:Hid (DAns bs 0 0 0 E0 0 15):=zEQ HP.out (.inl hok)
  have HE:Hid _:=zL3 k a b s hs hok;clear hok
  go_wp2_with fail
  refine(HE.out _).mono ?_;rintro e w2 ⟨rfl,hb2⟩;have g2:G w1 w2:=((G.refl w1).alloc _).trans hb2;have hc2:∀o,w2.cell? {block:=w.heap.size,off:=o}=[I 0,I 0,I 0,.string E0][o]?:=G.cells g2 hc1 hz1;have hf2:∀o,w2.frozen? {block:=w.heap.size,off:=o}=false:=G.frozens g2 hf1 hz1;have HG:Hid (G w w2):=HG1.out.trans g2;clear g2 hb2 HE
  go_wp2
  go_quiet (fail)
  go_wp2
  exact bodyPost_ret (v:=.tuple #[V0,.int .i64 0,.int .i64 15]) (by simp[results,results60,go_sem,hc2]) rfl ⟨0,0,0,E0,0,15,rfl,HN.out,by repeat(first|exact G.refl _|assumption|exact HG.out|refine G.alloc ?_ _|refine G.drewNE ?_ _|refine G.drew ?_|refine G.setCell ?_ (by simp) _)⟩
 ·have HE:Hid _:=zFQ k a b s hs hok ha
  have HL:Hid _:=zRn k a b s hok ha hb';generalize hys:encV k a b s=ys at HE HL
  go_wp2_with fail
  refine(HE.out _).mono ?_;rintro e w2 ⟨x2,rfl,hB2⟩;have g2:G w1 w2:=((G.refl w1).alloc _).trans hB2.g;have hc5:∀o,w2.cell? {block:=w1.heap.size,off:=o}=[I k,I a,I b,.string s][o]?:=G.cells hB2.g (by simp) (by simp)
  have hz5:w1.heap.size<w2.heap.size:=by have:=hB2.g.size;simp at this;omega
  have hc2:∀o,w2.cell? {block:=w.heap.size,off:=o}=[I 0,I 0,I 0,.string E0][o]?:=G.cells g2 hc1 hz1;have hf2:∀o,w2.frozen? {block:=w.heap.size,off:=o}=false:=G.frozens g2 hf1 hz1;have HG:Hid (G w w2):=HG1.out.trans g2;have hcv:∀n,(convert 33 9 x2).run prog (w2.drewN n)=.ok (.string (strN ys)) (w2.drewN n):=fun n=>zBA (hB2.row.G ((G.refl w2).drewNE n));have hrow2:=hB2.row;obtain⟨p2,c2,e2,hcap2,_⟩:=hB2.row;subst e2;have HR:Hid (RowB w2 (.slice p bs.length cap) bs):=HX.out.G (HG1.out.trans g2);clear g2 hB2 HE hrow2 hc1 hf1
  by_cases hlen:bs.length<ys.length
  ·have hleni:(bs.length:Int)<(ys.length:Int):=by omega
   have HN:Hid (DAns bs 0 0 0 E0 0 15):=zEQ HP.out (.inr (by
    rw[hys];cases h:ys.isPrefixOf bs
    ·rfl
    ·have:=zTc h;omega))
   clear hys HR hcv
   go_wp2
   go_quiet (fail)
   go_wp2
   exact bodyPost_ret (v:=.tuple #[V0,.int .i64 0,.int .i64 15]) (by simp[results,results60,go_sem,hc2]) rfl ⟨0,0,0,E0,0,15,rfl,HN.out,by repeat(first|exact G.refl _|assumption|exact HG.out|refine G.alloc ?_ _|refine G.drewNE ?_ _|refine G.drew ?_|refine G.setCell ?_ (by simp) _)⟩
  ·have hleni:¬(bs.length:Int)<(ys.length:Int):=by omega
   have hsl:=zDe p bs.length cap ys.length (by omega)
   have hcv2:∀n,(convert 33 9 (.slice p ys.length cap)).run prog (w2.drewN n)=.ok (.string (strN (bs.take ys.length))) (w2.drewN n):=fun n=>by
    refine zBA ?_;obtain⟨p',cap',he,h1,h2⟩:=RowB.G HR.out ((G.refl w2).drewNE n);cases he;refine⟨p,cap,by rw[List.length_take];congr 1;omega,by rw[List.length_take];omega,fun i d hi=>?_⟩;rw[List.getElem?_take] at hi
    split at hi
    ·exact h2 i d hi
    ·cases hi
   cases hpf:ys.isPrefixOf bs
   ·have HN:Hid (DAns bs 0 0 0 E0 0 15):=zEQ HP.out (.inr (by rw[hys];exact hpf))
    have hsne:((strN (bs.take ys.length)).toList==(strN ys).toList)=false:=by
     refine beq_false_of_ne fun he=>?_;have:=zOs _ _ (fun d hd=>HB.out d (List.mem_of_mem_take hd)) HL.out he;have:=zPq this;rw[this] at hpf;cases hpf
    clear hys hpf HR HL
    go_wp2
    go_quiet (fail)
    go_wp2
    exact bodyPost_ret (v:=.tuple #[V0,.int .i64 0,.int .i64 15]) (by simp[results,results60,go_sem,hc2]) rfl ⟨0,0,0,E0,0,15,rfl,HN.out,by repeat(first|exact G.refl _|assumption|exact HG.out|refine G.alloc ?_ _|refine G.drewNE ?_ _|refine G.drew ?_|refine G.setCell ?_ (by simp) _)⟩
   ·have HN:Hid (DAns bs k a b s (ys.length:Int) 0):=by
     have:=zJu hok ha hb' HP.out (by rw[hys];exact hpf)
     rwa [hys] at this
    have htk:=zOn hpf;rw[htk] at hcv2;clear htk;clear hys hpf HR HL
    go_wp2
    go_quiet (fail)
    go_wp2
    exact bodyPost_ret (v:=.tuple #[V k a b s,.int .i64 (ys.length:Int),.int .i64 0]) (by simp[results,results60,go_sem,hc2]) rfl ⟨k,a,b,s,_,0,rfl,HN.out,by repeat(first|exact G.refl _|assumption|exact HG.out|refine G.alloc ?_ _|refine G.drewNE ?_ _|refine G.drew ?_|refine G.setCell ?_ (by simp) _)⟩
end
section
open Go.RowKit Go.Shelf Go.PlainAid Go.Lib
theorem zUq{w:World}{x:Value}(h:BsOk w x):∃(p:Option Addr) (cap:Nat) (bs:List Nat),x=.slice p bs.length cap∧RowB w x bs∧(∀d∈bs,d<256)∧bs.length≤140737488351232∧bs.length≤cap∧
  ((p=none∧bs=[]∧cap=0)∨∃ad,p=some ad∧∀j u,(bs.map bv)[j]?=some u→w.cell? (ad.add j)=some u):=by
 rcases h with rfl|⟨ad,len,cap,f,rfl,hlc,hb,hf⟩
 ·exact⟨none,0,[],rfl,zCA w,by simp,by simp,Nat.le_refl _,.inl ⟨rfl,rfl,rfl⟩⟩
 ·have hl:((List.range len).map fun i=>(f i).toNat).length=len:=by simp
  have hat:∀i d,((List.range len).map fun i=>(f i).toNat)[i]?=some d→i<len∧d=(f i).toNat:=fun i d hi=>by
   obtain⟨h1,h2⟩:=List.getElem?_eq_some_iff.1 hi;rw[hl] at h1;exact⟨h1,by simpa using h2.symm⟩
  have hc:∀i d,((List.range len).map fun i=>(f i).toNat)[i]?=some d→w.cell? (ad.add i)=some (bv d):=fun i d hi=>by
   obtain⟨h1,rfl⟩:=hat i d hi;obtain⟨h2,h3,h4⟩:=hf i (by omega);rw[h2];show some (Value.int .u8 (f i))=some (Value.int .u8 _)
   congr 2;omega
  refine⟨some ad,cap,_,by rw[hl],⟨some ad,cap,by rw[hl],by rw[hl];exact hlc,fun i d hi=>?_⟩,fun d hd=>?_,by rw[hl];unfold reachBytes at hb;omega,by rw[hl];exact hlc,.inr ⟨ad,rfl,fun j u hj=>?_⟩⟩
  ·obtain⟨h1,h2⟩:=hat i d hi
   have hsp:ad.spot=none:=by
    have:=World.cell?_spot (hf 0 (by omega)).1
    simpa [Addr.add] using this
   have:=hc i d hi;obtain⟨b,o,sp⟩:=ad;simp only at hsp;subst hsp;refine⟨b,o,rfl,?_⟩
   rwa [Go.WideShapes.add_plain] at this
  ·obtain⟨i,hi,rfl⟩:=List.mem_map.1 hd
   obtain⟨_,h3,h4⟩:=hf i (by have:=List.mem_range.1 hi;omega);omega
  ·rw[List.getElem?_map] at hj
   obtain⟨d,hd,rfl⟩:=Option.map_eq_some_iff.1 hj;exact hc j d hd
theorem zL6(p:Option Addr)(cap:Nat)(bs:List Nat)(w:World)(hx:RowB w (.slice p bs.length cap) bs)(hb:∀d∈bs,d<256)(hl:bs.length≤140737488355328)(hcap:bs.length≤cap):Calls prog 60 #[.slice p bs.length cap] w (DecA bs w):=by
 by_cases h0:bs.length=0
 ·exact zSo p cap bs w h0
 ·exact zOU p cap bs w hx hb hl hcap (by omega)
theorem zGw(a b:Value)(xs:List Nat)(w:World)(ha:RowB w a xs)(hb:RowB w b xs)(hx:xs.length≤140737488355328):CG 10 #[a,b] w (.bool true):=by
 obtain⟨pa,ca,rfl,hca,ha⟩:=ha;obtain⟨pb,cb,rfl,hcb,hb⟩:=hb;have HA:Hid _:=ha;have HB:Hid _:=hb;clear ha hb
 go_enter func10,ntmps10
 go_wp2
 go_loopw [5] (fun i W=>∃k:Nat,k≤xs.length∧i=.int .i64 k∧G w W) (fun i _=>xs.length-(RowKit.intOf i).toNat)
 case atStart=>exact⟨0,Nat.zero_le _,rfl,G.refl _⟩
 case round=>
  obtain⟨k,hk,rfl,hG⟩:=hrel
  by_cases hlt:k<xs.length
  ·obtain⟨d,hd⟩:∃d,xs[k]?=some d:=⟨_,List.getElem?_eq_getElem hlt⟩
   obtain⟨g,o,hp,hcell⟩:=HA.out k d hd;obtain⟨g',o',hp',hcell'⟩:=HB.out k d hd;have hc1:wr.cell? ⟨g,o+k,none⟩=some (bv d):=(hG.cell (zAj hcell)).trans hcell;have hc2:wr.cell? ⟨g',o'+k,none⟩=some (bv d):=(hG.cell (zAj hcell')).trans hcell'
   have hkI:(k:Int)<(xs.length:Int):=by omega
   have HG:Hid _:=hG;clear hG hd hcell hcell';subst hp hp'
   go_wp2
   go_quiet (fail)
   go_wp2
   go_roundw
   case rel=>exact⟨k+1,by omega,by go_num,by repeat(first|exact HG.out|refine G.drewNE ?_ _|refine G.drew ?_)⟩
   case measure=>simp[RowKit.intOf];omega
  ·have hkI:¬(k:Int)<(xs.length:Int):=by omega
   have HG:Hid _:=hG;clear hG
   go_wp2
   go_ret;exact⟨rfl,HG.out⟩
theorem zWY(bs:List Nat):(bs++[201,202,203])[bs.length]?=some 201∧(bs++[201,202,203])[bs.length+1]?=some 202∧(bs++[201,202,203])[bs.length+2]?=some 203:=by
 refine⟨by simp,by simp,by simp⟩
theorem zP9(kind op k a b:Int)(s:ByteArray)(k' a' b':Int)(s':ByteArray)(vs:Value)(st tt:ByteArray)(n x y o1 o2:Int)(w:World)(hT:Tabs w)(ad:Addr)(cap:Nat)(bs:List Nat)(hfl:∀j u,(bs.map bv)[j]?=some u→w.cell? (ad.add j)=some u)(hx:RowB w (.slice (some ad) bs.length cap) bs)(hb:∀d∈bs,d<256)(hl:bs.length≤140737488351232)(hcap:bs.length≤cap):CG 22 #[.agg #[I kind,I op,I k,I a,I b,.string s,I k',I a',I b',.string s',vs,.string st,.string tt,.slice (some ad) bs.length cap,I n,I x,I y,I o1,I o2]] w (.bool true):=by
 obtain⟨i0,hi,hz0,hz1,hz2⟩:=info_parts zAW;have HX:Hid (RowB w (.slice (some ad) bs.length cap) bs):=hx;have HB:Hid _:=hb;have HFL:Hid _:=hfl;clear hx hb hfl;have hv:=eqV
 go_enter func22,ntmps22
 go_wp2_with (at_builtin;refine wpList_append_own _ rfl _ _ 33 rfl (w.alloc (.cells #[I kind,I op,I k,I a,I b,.string s,I k',I a',I b',.string s',vs,.string st,.string tt,.slice (some ad) bs.length cap,I n,I x,I y,I o1,I o2] 35)).heap.size 5 i0 (.int .u8 0) 1 1 underlying33 hi hz0 hz1 hz2 rfl (by decide) _ _ _ rfl (World.ownsRow_nil _ _ _ _) ad bs.length cap (bs.map bv) rfl ?c0 ?c1 ?c2 ?c3 ?c4 ?c5 ?_)
 case c0=>simp
 case c1=>
  intro j u hj;have h:=HFL.out j u hj;exact(Below.cell ((G.refl w).alloc _) (World.block_lt_of_cell? w _ h)).trans h
 case c2=>intro u hu;obtain⟨d,_,rfl⟩:=List.mem_map.1 hu;rfl
 case c3=>unfold maxLen;omega
 case c4=>omega
 case c5=>first|exact Nat.le_refl _|simp
 intro x3 w2 hown2 hgrow _;have hB2:Bw (w.alloc (.cells #[I kind,I op,I k,I a,I b,.string s,I k',I a',I b',.string s',vs,.string st,.string tt,.slice (some ad) bs.length cap,I n,I x,I y,I o1,I o2] 35)) w2 x3 ([]++bs):=(Bw.nil (w.alloc (.cells #[I kind,I op,I k,I a,I b,.string s,I k',I a',I b',.string s',vs,.string st,.string tt,.slice (some ad) bs.length cap,I n,I x,I y,I o1,I o2] 35)) (w.alloc (.cells #[I kind,I op,I k,I a,I b,.string s,I k',I a',I b',.string s',vs,.string st,.string tt,.slice (some ad) bs.length cap,I n,I x,I y,I o1,I o2] 35)) (G.refl _)).app bs bs.length rfl (by simpa using hown2) hgrow;rw[List.nil_append] at hB2;have HB2:Hid (Bw (w.alloc (.cells #[I kind,I op,I k,I a,I b,.string s,I k',I a',I b',.string s',vs,.string st,.string tt,.slice (some ad) bs.length cap,I n,I x,I y,I o1,I o2] 35)) w2 x3 bs):=hB2;clear hown2 hgrow hB2;have hs2:=HB2.out.g.size
 go_wp2_with (at_builtin;refine wpList_append_own _ rfl _ _ 33 rfl (w.alloc (.cells #[I kind,I op,I k,I a,I b,.string s,I k',I a',I b',.string s',vs,.string st,.string tt,.slice (some ad) bs.length cap,I n,I x,I y,I o1,I o2] 35)).heap.size 5 i0 (.int .u8 0) 1 1 underlying33 hi hz0 hz1 hz2 rfl (by decide) _ _ _ rfl (World.ownsRow.alloc HB2.out.own _) ⟨w2.heap.size,0,none⟩ 3 3 [bv 201,bv 202,bv 203] rfl ?c0 ?c1 ?c2 ?c3 ?c4 ?c5 ?_)
 case c0=>rfl
 case c1=>
  intro j u hj
  match j,hj with
  | 0,hj=>simp at hj;subst hj;simp[Addr.add]
  | 1,hj=>simp at hj;subst hj;simp[Addr.add]
  | 2,hj=>simp at hj;subst hj;simp[Addr.add]
 case c2=>intro u hu;simp at hu;rcases hu with rfl|rfl|rfl<;>rfl
 case c3=>unfold maxLen;omega
 case c4=>omega
 case c5=>simp at hs2 ⊢;omega
 intro x4 w3 hown3 hgrow3 _;have hB3:Bw (w.alloc (.cells #[I kind,I op,I k,I a,I b,.string s,I k',I a',I b',.string s',vs,.string st,.string tt,.slice (some ad) bs.length cap,I n,I x,I y,I o1,I o2] 35)) w3 x4 (bs++[201,202,203]):=(HB2.out.keep ((G.refl _).alloc _)).app [201,202,203] 3 rfl (by simpa using hown3) hgrow3;clear hown3 hgrow3 HB2 hs2
 rcases hB3.at with ⟨_,he⟩|⟨g,cap4,rfl,hg1,hg2,hcap4,hcells⟩
 ·simp at he
 have hlen3:(bs++[201,202,203]).length=bs.length+3:=by simp
 rw[hlen3] at hcap4⊢;have hE3:∀o,w3.cell? {block:=w.heap.size,off:=o}=[I kind,I op,I k,I a,I b,.string s,I k',I a',I b',.string s',vs,.string st,.string tt,.slice (some ad) bs.length cap,I n,I x,I y,I o1,I o2][o]?:=G.cells hB3.g (fun o=>by simp) (by simp)
 have hzE:w.heap.size<w3.heap.size:=by have:=hB3.g.size;simp at this;omega
 have hG3:G w w3:=((G.refl w).alloc _).trans hB3.g
 have hrowb:RowB w3 (.slice (some ⟨g,0,none⟩) bs.length cap4) bs:=⟨_,cap4,rfl,by omega,fun i d hi=>⟨g,0,rfl,by
  rw[Nat.zero_add]
  exact hcells i d (by rw[List.getElem?_append_left (List.getElem?_eq_some_iff.1 hi).1];exact hi)⟩⟩
 have HD:Hid (∀W,G w3 W→Calls prog 59 #[.slice (some ⟨g,0,none⟩) bs.length cap4] W (DecA bs W)):=fun W gg=>zJt _ bs W (hT.G (hG3.trans gg)) (hrowb.G gg) HB.out (by omega);have HR:Hid (∀W,G w3 W→Calls prog 60 #[.slice (some ad) bs.length cap] W (DecA bs W)):=fun W gg=>zL6 _ _ bs W (RowB.G HX.out (hG3.trans gg)) HB.out (by omega) hcap;have HS:Hid (∀W,G w3 W→CG 10 #[.slice (some ⟨g,0,none⟩) bs.length cap4,.slice (some ad) bs.length cap] W (.bool true)):=fun W gg=>zGw _ _ bs W (hrowb.G gg) (RowB.G HX.out (hG3.trans gg)) (by omega);obtain⟨m1,m2,m3⟩:=zWY bs;have hm1:=hcells _ _ m1;have hm2:=hcells _ _ m2;have hm3:=hcells _ _ m3;have hsl:=zDe (some ⟨g,0,none⟩) (bs.length+3) cap4 bs.length (by omega);have HG3:Hid (G w w3):=hG3;clear hcells hrowb hB3 hG3 m1 m2 m3 hg1 HX HB
 have q1:(bs.length:Int)<(bs.length:Int)+3:=by omega
 have q2:(bs.length:Int)+1<(bs.length:Int)+3:=by omega
 have q3:(bs.length:Int)+2<(bs.length:Int)+3:=by omega
 go_wp2_with fail
 refine(HD.out _ (G.refl _)).mono ?_;rintro e w4 ⟨k1,a1,b1,s1,n1,c1,rfl,hda,hb4⟩;have hE4:∀o,w4.cell? {block:=w.heap.size,off:=o}=[I kind,I op,I k,I a,I b,.string s,I k',I a',I b',.string s',vs,.string st,.string tt,.slice (some ad) bs.length cap,I n,I x,I y,I o1,I o2][o]?:=G.cells hb4 hE3 hzE;have HG4:Hid (G w3 w4):=hb4;have hz4:w3.heap.size≤w4.heap.size:=hb4.size
 have hzE4:w.heap.size<w4.heap.size:=by omega
 have HDA:Hid _:=hda;clear hb4 HD hE3 hda
 go_wp2_with fail
 refine(HR.out _ (HG4.out.alloc _)).mono ?_;rintro e w5 ⟨k2,a2,b2,s2,n2,c2,rfl,hda2,hb5⟩;obtain⟨rfl,rfl,rfl,rfl,rfl,rfl⟩:=DAns.one HDA.out hda2;have hc5:∀o,w5.cell? {block:=w4.heap.size,off:=o}=[I k1,I a1,I b1,.string s1][o]?:=G.cells hb5 (fun o=>by simp) (by simp)
 have hz5:w4.heap.size<w5.heap.size:=by have:=hb5.size;simp at this;omega
 have hzE5:w.heap.size<w5.heap.size:=by omega
 have HG5:Hid (G w3 w5):=(HG4.out.alloc _).trans hb5;have hE5:∀o,w5.cell? {block:=w.heap.size,off:=o}=[I kind,I op,I k,I a,I b,.string s,I k',I a',I b',.string s',vs,.string st,.string tt,.slice (some ad) bs.length cap,I n,I x,I y,I o1,I o2][o]?:=G.cells (((G.refl w4).alloc _).trans hb5) hE4 (by omega);clear hb5 HR hE4 hda2 HDA
 go_wp2_with fail
 refine(HS.out _ (HG5.out.alloc _)).mono ?_;rintro e w6 ⟨rfl,hb6⟩;have HG6:Hid (G w3 w6):=(HG5.out.alloc _).trans hb6;have hm1':w6.cell? ⟨g,bs.length,none⟩=some (bv 201):=(HG6.out.cell hg2).trans hm1;have hm2':w6.cell? ⟨g,bs.length+1,none⟩=some (bv 202):=(HG6.out.cell hg2).trans hm2;have hm3':w6.cell? ⟨g,bs.length+2,none⟩=some (bv 203):=(HG6.out.cell hg2).trans hm3;have HG7:Hid (G w w6):=HG3.out.trans HG6.out;clear hb6 HS hm1 hm2 hm3 hE5 hc5 HG6 HG5 HG4 HG3
 go_wp2
 go_ret;exact⟨by simp,by repeat(first|exact G.refl _|assumption|exact HG7.out|refine G.alloc ?_ _|refine G.drewNE ?_ _|refine G.drew ?_|refine G.setCell ?_ (by simp) _)⟩
end
section
open Go.RowKit Go.Shelf Go.PlainAid Go.Lib
theorem zQa(kind op k a b:Int)(s:ByteArray)(k' a' b':Int)(s':ByteArray)(vs:Value)(st tt:ByteArray)(n x y o1 o2:Int)(w:World)(hT:Tabs w):CG 22 #[.agg #[I kind,I op,I k,I a,I b,.string s,I k',I a',I b',.string s',vs,.string st,.string tt,.slice none 0 0,I n,I x,I y,I o1,I o2]] w (.bool true):=by
 obtain⟨i0,hi,hz0,hz1,hz2⟩:=info_parts zAW;have hv:=eqV
 go_enter func22,ntmps22
 go_wp2_with (at_builtin;refine wpList_append_own_none rfl _ _ 33 rfl 0 5 i0 1 underlying33 hi _ 0 [] rfl (World.ownsRow_nil _ _ _ _) rfl ?_;refine Hid.out ?_)
 obtain⟨w2,hw2⟩:∃w2,w2=w.alloc (.cells #[I kind,I op,I k,I a,I b,.string s,I k',I a',I b',.string s',vs,.string st,.string tt,.slice none 0 0,I n,I x,I y,I o1,I o2] 35):=⟨_,rfl⟩
 have hB2:Bw (w.alloc (.cells #[I kind,I op,I k,I a,I b,.string s,I k',I a',I b',.string s',vs,.string st,.string tt,.slice none 0 0,I n,I x,I y,I o1,I o2] 35)) w2 (.slice none 0 0) []:=by rw[hw2];exact Bw.nil _ _ (G.refl _)
 have HB2:Hid (Bw (w.alloc (.cells #[I kind,I op,I k,I a,I b,.string s,I k',I a',I b',.string s',vs,.string st,.string tt,.slice none 0 0,I n,I x,I y,I o1,I o2] 35)) w2 (.slice none 0 0) []):=hB2;unfold Hid;rw[←hw2];clear hw2 hB2;have hs2:=HB2.out.g.size
 go_wp2_with (at_builtin;refine wpList_append_own _ rfl _ _ 33 rfl (w.alloc (.cells #[I kind,I op,I k,I a,I b,.string s,I k',I a',I b',.string s',vs,.string st,.string tt,.slice none 0 0,I n,I x,I y,I o1,I o2] 35)).heap.size 5 i0 (.int .u8 0) 1 1 underlying33 hi hz0 hz1 hz2 rfl (by decide) _ 0 [] rfl (World.ownsRow.alloc HB2.out.own _) ⟨w2.heap.size,0,none⟩ 3 3 [bv 201,bv 202,bv 203] rfl ?c0 ?c1 ?c2 ?c3 ?c4 ?c5 ?_)
 case c0=>rfl
 case c1=>
  intro j u hj
  match j,hj with
  | 0,hj=>simp at hj;subst hj;simp[Addr.add]
  | 1,hj=>simp at hj;subst hj;simp[Addr.add]
  | 2,hj=>simp at hj;subst hj;simp[Addr.add]
 case c2=>intro u hu;simp at hu;rcases hu with rfl|rfl|rfl<;>rfl
 case c3=>unfold maxLen;omega
 case c4=>omega
 case c5=>simp at hs2 ⊢;omega
 intro x4 w3 hown3 hgrow3 _;have hB3:Bw (w.alloc (.cells #[I kind,I op,I k,I a,I b,.string s,I k',I a',I b',.string s',vs,.string st,.string tt,.slice none 0 0,I n,I x,I y,I o1,I o2] 35)) w3 x4 ([]++[201,202,203]):=(HB2.out.keep ((G.refl _).alloc _)).app [201,202,203] 3 rfl (by simpa using hown3) hgrow3;rw[List.nil_append] at hB3;clear hown3 hgrow3 HB2 hs2
 rcases hB3.at with ⟨_,he⟩|⟨g,cap4,rfl,hg1,hg2,hcap4,hcells⟩
 ·cases he
 have hcap4':3≤cap4:=hcap4;have hE3:∀o,w3.cell? {block:=w.heap.size,off:=o}=[I kind,I op,I k,I a,I b,.string s,I k',I a',I b',.string s',vs,.string st,.string tt,.slice none 0 0,I n,I x,I y,I o1,I o2][o]?:=G.cells hB3.g (fun o=>by simp) (by simp)
 have hzE:w.heap.size<w3.heap.size:=by have:=hB3.g.size;simp at this;omega
 have hG3:G w w3:=((G.refl w).alloc _).trans hB3.g;have hrowb:RowB w3 (.slice (some ⟨g,0,none⟩) 0 cap4) []:=⟨_,cap4,rfl,Nat.zero_le _,fun i d hi=>by simp at hi⟩;have HD:Hid (∀W,G w3 W→Calls prog 59 #[.slice (some ⟨g,0,none⟩) 0 cap4] W (DecA [] W)):=fun W gg=>zJt _ [] W (hT.G (hG3.trans gg)) (hrowb.G gg) (by simp) (by simp);have HR:Hid (∀W,G w3 W→Calls prog 60 #[.slice none 0 0] W (DecA [] W)):=fun W gg=>zL6 none 0 [] W (zCA W) (by simp) (by simp) (Nat.zero_le _);have HS:Hid (∀W,G w3 W→CG 10 #[.slice (some ⟨g,0,none⟩) 0 cap4,.slice none 0 0] W (.bool true)):=fun W gg=>zGw _ _ [] W (hrowb.G gg) (zCA W) (by simp);have hm1:=hcells 0 201 rfl;have hm2:=hcells 1 202 rfl;have hm3:=hcells 2 203 rfl;have hsl:=zDe (some ⟨g,0,none⟩) 3 cap4 0 (by omega);have HG3:Hid (G w w3):=hG3;clear hcells hrowb hB3 hG3 hg1 hcap4
 go_wp2_with fail
 refine(HD.out _ (G.refl _)).mono ?_;rintro e w4 ⟨k1,a1,b1,s1,n1,c1,rfl,hda,hb4⟩;have hE4:∀o,w4.cell? {block:=w.heap.size,off:=o}=[I kind,I op,I k,I a,I b,.string s,I k',I a',I b',.string s',vs,.string st,.string tt,.slice none 0 0,I n,I x,I y,I o1,I o2][o]?:=G.cells hb4 hE3 hzE;have HG4:Hid (G w3 w4):=hb4;have hz4:w3.heap.size≤w4.heap.size:=hb4.size
 have hzE4:w.heap.size<w4.heap.size:=by omega
 have HDA:Hid _:=hda;clear hb4 HD hE3 hda
 go_wp2_with fail
 refine(HR.out _ (HG4.out.alloc _)).mono ?_;rintro e w5 ⟨k2,a2,b2,s2,n2,c2,rfl,hda2,hb5⟩;obtain⟨rfl,rfl,rfl,rfl,rfl,rfl⟩:=DAns.one HDA.out hda2;have hc5:∀o,w5.cell? {block:=w4.heap.size,off:=o}=[I k1,I a1,I b1,.string s1][o]?:=G.cells hb5 (fun o=>by simp) (by simp)
 have hz5:w4.heap.size<w5.heap.size:=by have:=hb5.size;simp at this;omega
 have hzE5:w.heap.size<w5.heap.size:=by omega
 have HG5:Hid (G w3 w5):=(HG4.out.alloc _).trans hb5;have hE5:∀o,w5.cell? {block:=w.heap.size,off:=o}=[I kind,I op,I k,I a,I b,.string s,I k',I a',I b',.string s',vs,.string st,.string tt,.slice none 0 0,I n,I x,I y,I o1,I o2][o]?:=G.cells (((G.refl w4).alloc _).trans hb5) hE4 (by omega);clear hb5 HR hE4 hda2 HDA
 go_wp2_with fail
 refine(HS.out _ (HG5.out.alloc _)).mono ?_;rintro e w6 ⟨rfl,hb6⟩;have HG6:Hid (G w3 w6):=(HG5.out.alloc _).trans hb6;have hm1':w6.cell? ⟨g,0,none⟩=some (bv 201):=(HG6.out.cell hg2).trans hm1;have hm2':w6.cell? ⟨g,1,none⟩=some (bv 202):=(HG6.out.cell hg2).trans hm2;have hm3':w6.cell? ⟨g,2,none⟩=some (bv 203):=(HG6.out.cell hg2).trans hm3;have HG7:Hid (G w w6):=HG3.out.trans HG6.out;clear hb6 HS hm1 hm2 hm3 hE5 hc5 HG6 HG5 HG4 HG3
 go_wp2
 go_ret;exact⟨by simp,by repeat(first|exact G.refl _|assumption|exact HG7.out|refine G.alloc ?_ _|refine G.drewNE ?_ _|refine G.drew ?_|refine G.setCell ?_ (by simp) _)⟩
theorem zT3(e:Ent)(w:World)(hT:Tabs w)(h:BsOk w e.bb):CG 22 #[e.V] w (.bool true):=by
 obtain⟨kind,op,k,a,b,s,k',a',b',s',vs,st,tt,bb,n,x,y,o1,o2⟩:=e;simp only at h⊢;obtain⟨p,cap,bs,rfl,hrow,hb,hl,hcap,hc⟩:=zUq h
 rcases hc with ⟨rfl,rfl,rfl⟩|⟨ad,rfl,hfl⟩
 ·exact zQa kind op k a b s k' a' b' s' vs st tt n x y o1 o2 w hT
 ·exact zP9 kind op k a b s k' a' b' s' vs st tt n x y o1 o2 w hT ad cap bs hfl hrow hb hl hcap
theorem BsOk.G{w w':World}{x:Value}(h:BsOk w x)(g:G w w'):BsOk w' x:=by
 rcases h with h|⟨a,len,cap,f,rfl,h1,h2,h3⟩
 ·exact .inl h
 ·exact .inr ⟨a,len,cap,f,rfl,h1,h2,fun i hi=>⟨(Below.cell g (World.block_lt_of_cell? w _ (h3 i hi).1)).trans (h3 i hi).1,(h3 i hi).2⟩⟩
theorem zS5(e:Ent)(hk:e.kind=9)(w:World)(hT:Tabs w)(h:BsOk w e.bb):CG 7 #[e.V] w (.bool true):=by
 have HF:Hid (∀W,G w W→CG 22 #[e.V] W (.bool true)):=fun W g=>zT3 e W (hT.G g) (h.G g);obtain⟨kind,op,k,a,b,s,k',a',b',s',vs,st,tt,bb,n,x,y,o1,o2⟩:=e;simp only at hk;subst hk;clear h hT
 have hr:(w.alloc (.cells #[I 9,I op,I k,I a,I b,.string s,I k',I a',I b',.string s',vs,.string st,.string tt,bb,I n,I x,I y,I o1,I o2] 35)).rangeAt w.heap.size 0 [I 9,I op,I k,I a,I b,.string s,I k',I a',I b',.string s',vs,.string st,.string tt,bb,I n,I x,I y,I o1,I o2]:=fun j v hv=>by rw[Nat.zero_add];simpa using hv
 go_enter func7,ntmps7
 go_wp2_with (first|(refine wpList_load_mid rfl 35 _ rfl w.heap.size 0 rfl [I 9,I op,I k,I a,I b,.string s,I k',I a',I b',.string s',vs,.string st,.string tt,bb,I n,I x,I y,I o1,I o2] _ hr underlying35 rfl (by kernel_rfl) ?_)|(go_at_call 22;refine(HF.out _ ((G.refl w).alloc _)).mono ?_;rintro e w1 ⟨rfl,hb1⟩))
 go_wp2
 go_ret;exact⟨rfl,((G.refl w).alloc _).trans hb1⟩
theorem zGZ(W:World)(hT:Tabs W)(e:Ent)(h:zDn W e)(h1:9≤e.kind)(h2:e.kind≤9)(w':World)(g:G W w'):Calls prog 7 #[e.V] w' fun r w''=>r=.returned (.bool true)∧G w' w'':=
 zS5 e (by omega) w' (hT.G g) (h.bb.G g)
end
section
open Ieee
theorem zEq(s:Bool)(m u:Nat):signed s m u=(if s then -1 else 1)*((m*2^u:Nat):Int):=by
 unfold signed;rw[Nat.shiftLeft_eq];cases s<;>simp
theorem zFc(s:Bool)(m u v:Nat):signed s m (u+v)=signed s m u*((2^v:Nat):Int):=by
 rw[zEq,zEq,Nat.pow_add,←Nat.mul_assoc,Int.natCast_mul,Int.mul_assoc]
theorem zIg(a b:Int)(c:Nat)(h:0<c):compare (a*(c:Int)) (b*(c:Int))=compare a b:=by
 have h1:a*(c:Int)<b*(c:Int)↔a<b:=Int.mul_lt_mul_right (by omega);have h2:a*(c:Int)=b*(c:Int)↔a=b:=Int.mul_eq_mul_right_iff (by omega);simp only[compare,compareOfLessAndEq,h1,h2]
def Nu(x:Nat)(v:Int):Prop:=∃(s:Bool) (m:Nat) (p:Int),double.read x=.number s m p∧-1074≤p∧signed s m (p+1074).toNat=v
theorem zFk(x:Nat):(∃s f,double.read x=.nan s f)∨(∃s,double.read x=.infinity s)∨∃v,Nu x v:=by
 have e:∀D,double.read x=D→(∃s f,D=.nan s f)∨(∃s,D=.infinity s)∨∃s m p,D=.number s m p∧(-1074:Int)≤p:=by
  intro D hD;unfold Format.read at hD
  dsimp only at hD
  rw[zCk] at hD
  split at hD
  ·exact .inr (.inr ⟨_,_,_,hD.symm,by omega⟩)
  ·split at hD
   ·exact .inr (.inr ⟨_,_,_,hD.symm,by omega⟩)
   ·split at hD
    ·exact .inr (.inl ⟨_,hD.symm⟩)
    ·exact .inl ⟨_,_,hD.symm⟩
 rcases e _ rfl with h|h|⟨s,m,p,h,hp⟩
 ·exact .inl h
 ·exact .inr (.inl h)
 ·exact .inr (.inr ⟨_,s,m,p,h,hp,rfl⟩)
theorem Nu.order{x y:Nat}{v u:Int}(hx:Nu x v)(hy:Nu y u):double.order x y=some (compare v u):=by
 obtain⟨s,m,i,rx,hi,rfl⟩:=hx;obtain⟨t,n,j,ry,hj,rfl⟩:=hy;show(double.read x).order (double.read y)=_;rw[rx,ry];simp only[Datum.order]
 have e1:(i+1074).toNat=(i-min i j).toNat+(min i j+1074).toNat:=by omega
 have e2:(j+1074).toNat=(j-min i j).toNat+(min i j+1074).toNat:=by omega
 rw[e1,e2,zFc,zFc,zIg _ _ _ (Nat.two_pow_pos _)]
theorem Nu.read{x:Nat}{v:Int}(h:Nu x v):∃s m p,double.read x=.number s m p:=by
 obtain⟨s,m,p,h,_⟩:=h;exact⟨s,m,p,h⟩
theorem Fl.nu{y:Nat}{n:Int}(h:Fl y n)(L:Nat)(hL:L=1074):Nu y (n*2^L):=by
 obtain⟨_,s,k,hr,hs⟩:=h
 rcases zFk y with ⟨_,_,h1⟩|⟨_,h1⟩|⟨v,s',m',p',h1,hp,hv⟩
 iterate 2
  ·rw[hr] at h1;cases h1
 ·rw[hr] at h1
  obtain⟨rfl,rfl,rfl⟩:s=s'∧n.natAbs*2^k=m'∧-(k:Int)=p':=by cases h1;exact⟨rfl,rfl,rfl⟩
  refine⟨s,_,_,hr,hp,?_⟩
  have e:(-(k:Int)+1074).toNat=L-k:=by omega
  rw[e,zB5 hs,show k+(L-k)=L by omega]
theorem Nu.strike{x:Nat}{v:Int}(hx:x<2^64)(h:Nu x v):Nu (x%9223372036854775808) (v.natAbs:Int):=by
 obtain⟨s,m,p,hr,hp,rfl⟩:=h;refine⟨false,m,p,zDg x hx hr,hp,?_⟩;rw[zBI,zEq];simp
theorem zVR{n L:Nat}(h:(n:Int)≤33554432*2^L):n≤33554432*2^L:=Int.ofNat_le.1 (by rw[Int.natCast_mul,Int.natCast_pow];exact h)
theorem Nu.whole{x:Nat}{v:Int}(h:Nu x v)(L:Nat)(hL:L=1074)(hv:v.natAbs≤33554432*2^L):∃n:Int,n.natAbs≤33554432∧Go.floatToIntVal .f64 x .i64=some n∧Fl (tr x) n:=by
 obtain⟨s,m,p,hr,hp,rfl⟩:=h;rw[zBI] at hv
 have hq:(m <<< p.toNat)/2^(-p).toNat≤33554432:=by
  rw[Nat.shiftLeft_eq];refine Nat.div_le_of_le_mul ?_;have hU:(0:Nat)<2^L:=Nat.two_pow_pos _
  rcases Int.le_total p 0 with c|c
  ·have e1:p.toNat=0:=by omega
   have e2:L=(p+1074).toNat+(-p).toNat:=by omega
   rw[e1,Nat.pow_zero,Nat.mul_one];generalize hk:(p+1074).toNat=k at *;generalize (-p).toNat=j at *;rw[e2,Nat.pow_add] at hv
   have:m*2^k≤(2^j*33554432)*2^k:=by
    have e3:(2^j*33554432)*2^k=33554432*(2^k*2^j):=by
     rw[Nat.mul_comm (2^j) 33554432,Nat.mul_assoc,Nat.mul_comm (2^j) (2^k)]
    rw[e3];exact hv
   exact Nat.le_of_mul_le_mul_right this (Nat.two_pow_pos _)
  ·have e1:(-p).toNat=0:=by omega
   have e2:(p+1074).toNat=p.toNat+L:=by omega
   rw[e1,Nat.pow_zero,Nat.one_mul];rw[e2,Nat.pow_add,←Nat.mul_assoc] at hv;exact Nat.le_of_mul_le_mul_right hv hU
 refine⟨signed s ((m <<< p.toNat)/2^(-p).toNat) 0,?_,?_,?_⟩
 ·rw[zBI,Nat.pow_zero,Nat.mul_one];exact hq
 ·have e:(FloatKind.f64.decode x).toInt .zero=some (signed s ((m <<< p.toNat)/2^(-p).toNat) 0):=by
   show(double.read x).toInt .zero=_;rw[hr];simp only[Datum.toInt,Datum.integral,zGa]
  have hb:(signed s ((m <<< p.toNat)/2^(-p).toNat) 0).natAbs≤33554432:=by rw[zBI,Nat.pow_zero,Nat.mul_one];exact hq
  unfold Go.floatToIntVal;rw[e];generalize signed s ((m <<< p.toNat)/2^(-p).toNat) 0=n at hb
  have h1:IntKind.i64.min = -9223372036854775808:=by decide
  have h2:IntKind.i64.max=9223372036854775807:=by decide
  exact if_pos ⟨by rw[h1];omega,by rw[h2];omega⟩
 ·unfold tr
  rw[hr];simp only[Datum.integral,zGa];generalize (m <<< p.toNat)/2^(-p).toNat=q at hq
  have e:signed s q 0=if s then -(q:Int)else(q:Int):=by unfold signed;cases s<;>simp
  rw[e];cases s
  ·have:=zBt false (q:Int) 0 (by simp;omega) (fun _=>by simp)
   simpa using this
  ·have:=zBt true (-(q:Int)) 0 (by simp;omega) (fun hq=>by simp;omega)
   simpa using this
theorem Fl.least:Fl 13943144446339055616 (-33554432):=by
 have:=Fl.most.neg;exact(show Go.Op.negFloat .f64 4719772409484279808=13943144446339055616 by decide +kernel)▸this
def bigB(x:Nat):Bool:=double.order (x%9223372036854775808) 4719772409484279808==some .gt
def frB(x:Nat):Bool:=double.order (tr x) x != some .eq
theorem zRk(a b:Int):(some (compare a b)==some Ordering.gt)=decide (b<a):=by
 simp only[compare,compareOfLessAndEq]
 by_cases h:a<b
 ·simp[h];omega
 ·by_cases h2:a=b
  ·simp[h2]
  ·simp[h,h2];omega
theorem zVY(a b:Int):(some (compare a b)==some Ordering.lt)=decide (a<b):=by
 simp only[compare,compareOfLessAndEq]
 by_cases h:a<b
 ·simp[h]
 ·by_cases h2:a=b
  ·simp[h2]
  ·simp[h,h2]
theorem zG0(x:Nat)(hx:x<2^64) :
  double.order x x=none
  ∨ (double.order x x=some .eq∧bigB x=true∧((double.order x 13943144446339055616==some .lt)=true∨((double.order x 13943144446339055616==some .lt)=false∧(double.order x 4719772409484279808==some .gt)=true)))
  ∨ (double.order x x=some .eq∧bigB x=false∧(double.order x 13943144446339055616==some .lt)=false∧(double.order x 4719772409484279808==some .gt)=false∧
    (∃s m p,double.read x=.number s m p)∧∃n:Int,n.natAbs≤33554432∧Go.floatToIntVal .f64 x .i64=some n∧Fl (tr x) n∧(double.order (floatOfInt .f64 n) x != some .eq)=frB x):=by
 obtain⟨L,hL⟩:∃L:Nat,L=1074:=⟨_,rfl⟩
 rcases zFk x with ⟨s,f,h⟩|⟨s,h⟩|⟨v,h⟩
 ·refine .inl ?_
  show(double.read x).order (double.read x)=_;rw[h];rfl
 ·refine .inr (.inl ?_)
  obtain⟨sm,mm,pm,hm⟩:=(Fl.most.nu L hL).read;obtain⟨sl,ml,pl,hl⟩:=(Fl.least.nu L hL).read
  have hs:double.read (x%9223372036854775808)=.infinity false:=by
   have:x%9223372036854775808=9218868437227405312:=by
    unfold Format.read at h
    dsimp only at h
    rw[d_sw,zF9] at h
    split at h
    ·cases h
    ·split at h
     ·cases h
     ·split at h
      ·assumption
      ·cases h
   rw[this];decide +kernel
  refine⟨?_,?_,?_⟩
  ·show(double.read x).order (double.read x)=_
   rw[h];cases s<;>rfl
  ·show((double.read (x%9223372036854775808)).order (double.read 4719772409484279808)==some .gt)=true
   rw[hs,hm];rfl
  ·cases s
   ·refine .inr ⟨?_,?_⟩
    ·show((double.read x).order (double.read 13943144446339055616)==some .lt)=false
     rw[h,hl];rfl
    ·show((double.read x).order (double.read 4719772409484279808)==some .gt)=true
     rw[h,hm];rfl
   ·refine .inl ?_
    show((double.read x).order (double.read 13943144446339055616)==some .lt)=true;rw[h,hl];rfl
 ·have h0:double.order x x=some .eq:=by rw[h.order h];simp[compare,compareOfLessAndEq]
  have hb:bigB x=decide ((33554432*2^L:Int)<v.natAbs):=by
   unfold bigB;rw[(h.strike hx).order (Fl.most.nu L hL),zRk]
  have hl:(double.order x 13943144446339055616==some .lt)=decide (v < -33554432*2^L):=by rw[h.order (Fl.least.nu L hL),zVY]
  have hg:(double.order x 4719772409484279808==some .gt)=decide ((33554432*2^L:Int)<v):=by rw[h.order (Fl.most.nu L hL),zRk]
  have key:∀U:Int,U=2^L→(bigB x=true∧((double.order x 13943144446339055616==some .lt)=true∨((double.order x 13943144446339055616==some .lt)=false∧(double.order x 4719772409484279808==some .gt)=true)))
    ∨ (bigB x=false∧(double.order x 13943144446339055616==some .lt)=false∧(double.order x 4719772409484279808==some .gt)=false∧(v.natAbs:Int)≤33554432*U):=by
   intro U hU;rw[←hU] at hb hl hg;rw[hb,hl,hg]
   have hU0:0<U:=by rw[hU];exact zEa L
   clear hb hl hg hU h0 h
   by_cases c:33554432*U<v.natAbs
   ·refine .inl ⟨by simp[c],?_⟩
    by_cases d:v < -33554432*U
    ·exact .inl (by simp[d])
    ·exact .inr ⟨by simp[d],by simp;omega⟩
   ·exact .inr ⟨by simp[c],by simp;omega,by simp;omega,by omega⟩
  rcases key _ rfl with ⟨k1,k2⟩|⟨k1,k2,k3,k4⟩
  ·exact .inr (.inl ⟨h0,k1,k2⟩)
  ·refine .inr (.inr ⟨h0,k1,k2,k3,h.read,?_⟩)
   obtain⟨n,hn,hi,hf⟩:=h.whole L hL (zVR k4);refine⟨n,hn,hi,hf,?_⟩;unfold frB;rw[(hf.nu L hL).order h,((Fl.ofInt n (by omega)).nu L hL).order h]
end
end Go.Proofs.YthmdjhfbhbheeaaGreatDoor
