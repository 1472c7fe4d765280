import Derived.Test.YthmdjhfbhbheeaaGreatDoorDec7
namespace Go.Proofs.YthmdjhfbhbheeaaGreatDoor
open Go.Proofs.Tryz
set_option maxHeartbeats 200000000
set_option maxRecDepth 100000
section
open Go.RowKit Go.Shelf Go.PlainAid Go.Lib
theorem rdt1(w:World):CG 36 #[.bool true] w (V 1 1 0 E0):=by
 go_enter func36,ntmps36
 go_wp2
 exact bodyPost_ret (v:=V 1 1 0 E0) (by simp[results,results36,go_sem]) rfl ⟨rfl,by repeat(first|exact G.refl _|assumption|refine G.alloc ?_ _|refine G.drew ?_|refine G.setCell ?_ (by simp) _)⟩
theorem rdt0(w:World):CG 36 #[.bool false] w (V 1 0 0 E0):=by
 go_enter func36,ntmps36
 go_wp2
 exact bodyPost_ret (v:=V 1 0 0 E0) (by simp[results,results36,go_sem]) rfl ⟨rfl,by repeat(first|exact G.refl _|assumption|refine G.alloc ?_ _|refine G.drew ?_|refine G.setCell ?_ (by simp) _)⟩
theorem rdw(n:Int)(w:World):CG 39 #[.int .i64 n] w (V 2 n 0 E0):=by
 go_enter func39,ntmps39
 go_wp2
 exact bodyPost_ret (v:=V 2 n 0 E0) (by simp[results,results39,go_sem]) rfl ⟨rfl,by repeat(first|exact G.refl _|assumption|refine G.alloc ?_ _|refine G.drew ?_|refine G.setCell ?_ (by simp) _)⟩
theorem rdp(n m:Int)(w:World):CG 80 #[.int .i64 n,.int .i64 m] w (V 3 n m E0):=by
 go_enter func80,ntmps80
 go_wp2
 exact bodyPost_ret (v:=V 3 n m E0) (by simp[results,results80,go_sem]) rfl ⟨rfl,by repeat(first|exact G.refl _|assumption|refine G.alloc ?_ _|refine G.drew ?_|refine G.setCell ?_ (by simp) _)⟩
theorem gid'{bs:List Nat}{n:Int}{c j:Nat}{k:Int}(hck:(c=16∧k=5)∨(c=17∧k=6))(hd:bs[0]?=some c)(h:NUP bs 1 n j):zAu bs k n 0 E0:=by
 have:TWP (bs.drop 1) n ((bs.drop 1).drop (encW n).length):=fun n0 rest hr he=>by
  obtain⟨rfl,_⟩:=h n0 rest hr he;exact⟨rfl,by rw[he];simp⟩
 exact gid hck hd this
theorem gnw'{bs:List Nat}{n:Int}{j:Nat}(h:NUP bs 0 n j)(h1:bs[j]?≠some 1):GNP bs 2 n 0 E0:=by
 refine⟨fun a0 rest hr he=>?_,fun a0 b0 rest hr _ he=>?_⟩
 ·obtain⟨rfl,rfl⟩:=h a0 ([0]++rest) hr (by rw[he];simp)
  exact⟨rfl,rfl,rfl,rfl⟩
 ·obtain⟨rfl,rfl⟩:=h a0 ([1]++(encW b0++rest)) hr (by rw[he];simp)
  refine absurd ?_ h1;rw[he];simp
theorem gnp'{bs:List Nat}{n m:Int}{j j2:Nat}(h:NUP bs 0 n j)(h1:bs[j]?=some 1)(h2:NUP bs (j+1) m j2):GNP bs 3 n m E0:=by
 refine⟨fun a0 rest hr he=>?_,fun a0 b0 rest hr hr2 he=>?_⟩
 ·obtain⟨rfl,rfl⟩:=h a0 ([0]++rest) hr (by rw[he];simp)
  rw[he] at h1;simp at h1
 ·obtain⟨rfl,rfl⟩:=h a0 ([1]++(encW b0++rest)) hr (by rw[he];simp)
  obtain⟨rfl,_⟩:=h2 b0 rest hr2 (by rw[he];simp[List.drop_append]);exact⟨rfl,rfl,rfl,rfl⟩
theorem g48'{bs:List Nat}{k a b:Int}{s:ByteArray}(hd:bs[0]?=some 48)(hl:bs.length≤1):zAu bs k a b s:=by
 intro k0 a0 b0 s0 rest hok ha hb he;exfalso
 have hk:k0=1:=by have:=zDQ hok ha he hd;omega
 subst hk;have he':bs=48::a0.toNat::rest:=he;rw[he'] at hl;simp at hl
theorem zXv(g o cap:Nat)(bs:List Nat)(w:World)(_hcap:bs.length≤cap)(_hb:∀d∈bs,d<256)(_hl:bs.length≤140737488355328)(hlen:0<bs.length)(hrow:RowB w (.slice (some ⟨g,o,none⟩) bs.length cap) bs)(hd:bs[0]?=some 80):Calls prog 105 #[.slice (some ⟨g,o,none⟩) bs.length cap] w (GBA bs w):=by
 have HP:Hid (zAu bs 0 0 0 E0):=g80 hd
 have hc':∀i d,bs[i]?=some d→w.cell? ⟨g,o+i,none⟩=some (bv d):=fun i d hi=>by
  obtain⟨p,cap',he,_,hc⟩:=hrow;cases he;obtain⟨g',o',h1,h2⟩:=hc i d hi;cases h1;exact h2
 have hlti:(0:Int)<(bs.length:Int):=by omega
 have hcell:w.cell? ⟨g,o,none⟩=some (bv 80):=by have:=hc' 0 80 hd;rwa [Nat.add_zero] at this
 have hgz:g<w.heap.size:=zAj hcell;clear hrow hd _hb hc'
 go_enter func105,ntmps105
 go_wp2
 exact bodyPost_ret (v:=V 0 0 0 E0) (by simp[results,results105,go_sem]) rfl ⟨0,0,0,E0,rfl,R0,R0,by decide,HP.out,by repeat(first|exact G.refl _|assumption|refine G.alloc ?_ _|refine G.drew ?_|refine G.setCell ?_ (by simp) _)⟩
theorem zVp(g o cap:Nat)(bs:List Nat)(w:World)(_hcap:bs.length≤cap)(_hb:∀d∈bs,d<256)(_hl:bs.length≤140737488355328)(hlen:0<bs.length)(hrow:RowB w (.slice (some ⟨g,o,none⟩) bs.length cap) bs)(hd:bs[0]?=some 48)(hd1:bs[1]?=some 1):Calls prog 105 #[.slice (some ⟨g,o,none⟩) bs.length cap] w (GBA bs w):=by
 have HP:Hid (zAu bs 1 1 0 E0):=by have:=g48 hd;rwa [if_pos (by rw[List.getElem?_drop];exact hd1)] at this
 have hc':∀i d,bs[i]?=some d→w.cell? ⟨g,o+i,none⟩=some (bv d):=fun i d hi=>by
  obtain⟨p,cap',he,_,hc⟩:=hrow;cases he;obtain⟨g',o',h1,h2⟩:=hc i d hi;cases h1;exact h2
 have hlti:(0:Int)<(bs.length:Int):=by omega
 have hcell:w.cell? ⟨g,o,none⟩=some (bv 48):=by have:=hc' 0 48 hd;rwa [Nat.add_zero] at this
 have hgz:g<w.heap.size:=zAj hcell;have hcell1:=hc' 1 1 hd1;have hl1:=(List.getElem?_eq_some_iff.1 hd1).1
 have hl1i:(1:Int)<(bs.length:Int):=by omega
 clear hrow hd _hb hc' hd1
 go_enter func105,ntmps105
 go_wp2_with fail
 refine(rdt1 _).mono ?_;rintro e w1 ⟨rfl,hb1⟩;have hcz:∀o,w1.cell? {block:=w.heap.size,off:=o}=[I 0,I 0,I 0,.string E0][o]?:=G.cells hb1 (by simp) (by simp);have hfz:∀o,w1.frozen? {block:=w.heap.size,off:=o}=false:=G.frozens hb1 (by simp) (by simp);have HG:Hid (G w w1):=((G.refl w).alloc _).trans hb1;clear hb1
 go_wp2
 exact bodyPost_ret (v:=V 1 1 0 E0) (by simp[results,results105,go_sem,hcz]) rfl ⟨1,1,0,E0,rfl,by unfold R64;omega,R0,by decide,HP.out,by repeat(first|exact G.refl _|assumption|exact HG.out|refine G.alloc ?_ _|refine G.drewNE ?_ _|refine G.drew ?_|refine G.setCell ?_ (by simp) _)⟩
theorem zVq(g o cap:Nat)(bs:List Nat)(w:World)(_hcap:bs.length≤cap)(_hb:∀d∈bs,d<256)(_hl:bs.length≤140737488355328)(hlen:0<bs.length)(hrow:RowB w (.slice (some ⟨g,o,none⟩) bs.length cap) bs)(hd:bs[0]?=some 48)(d1:Nat)(hd1:bs[1]?=some d1)(hne:d1≠1):Calls prog 105 #[.slice (some ⟨g,o,none⟩) bs.length cap] w (GBA bs w):=by
 have HP:Hid (zAu bs 1 0 0 E0):=by have:=g48 hd;rwa [if_neg (by rw[List.getElem?_drop,hd1];simp;exact hne)] at this
 have hc':∀i d,bs[i]?=some d→w.cell? ⟨g,o+i,none⟩=some (bv d):=fun i d hi=>by
  obtain⟨p,cap',he,_,hc⟩:=hrow;cases he;obtain⟨g',o',h1,h2⟩:=hc i d hi;cases h1;exact h2
 have hlti:(0:Int)<(bs.length:Int):=by omega
 have hcell:w.cell? ⟨g,o,none⟩=some (bv 48):=by have:=hc' 0 48 hd;rwa [Nat.add_zero] at this
 have hgz:g<w.heap.size:=zAj hcell;have hcell1:=hc' 1 d1 hd1;have hl1:=(List.getElem?_eq_some_iff.1 hd1).1
 have hl1i:(1:Int)<(bs.length:Int):=by omega
 have hne1:((d1:Int)==1)=false:=beq_false_of_ne (by omega);clear hrow hd _hb hc' hd1 hne
 go_enter func105,ntmps105
 go_wp2_with fail
 refine(rdt0 _).mono ?_;rintro e w1 ⟨rfl,hb1⟩;have hcz:∀o,w1.cell? {block:=w.heap.size,off:=o}=[I 0,I 0,I 0,.string E0][o]?:=G.cells hb1 (by simp) (by simp);have hfz:∀o,w1.frozen? {block:=w.heap.size,off:=o}=false:=G.frozens hb1 (by simp) (by simp);have HG:Hid (G w w1):=((G.refl w).alloc _).trans hb1;clear hb1
 go_wp2
 exact bodyPost_ret (v:=V 1 0 0 E0) (by simp[results,results105,go_sem,hcz]) rfl ⟨1,0,0,E0,rfl,by unfold R64;omega,R0,by decide,HP.out,by repeat(first|exact G.refl _|assumption|exact HG.out|refine G.alloc ?_ _|refine G.drewNE ?_ _|refine G.drew ?_|refine G.setCell ?_ (by simp) _)⟩
theorem zXy(g o cap:Nat)(bs:List Nat)(w:World)(_hcap:bs.length≤cap)(_hb:∀d∈bs,d<256)(_hl:bs.length≤140737488355328)(hlen:0<bs.length)(hrow:RowB w (.slice (some ⟨g,o,none⟩) bs.length cap) bs)(hd:bs[0]?=some 16):Calls prog 105 #[.slice (some ⟨g,o,none⟩) bs.length cap] w (GBA bs w):=by
 have H1:Hid (∀W,G w W→Calls prog 143 #[.slice (some ⟨g,o,none⟩) bs.length cap,.int .i64 1] W (NUA bs 1 W)):=fun W g=>zFp _ bs 1 W (hrow.G g) _hb _hl (by omega);have HD:Hid _:=hd
 have hc':∀i d,bs[i]?=some d→w.cell? ⟨g,o+i,none⟩=some (bv d):=fun i d hi=>by
  obtain⟨p,cap',he,_,hc⟩:=hrow;cases he;obtain⟨g',o',h1,h2⟩:=hc i d hi;cases h1;exact h2
 have hlti:(0:Int)<(bs.length:Int):=by omega
 have hcell:w.cell? ⟨g,o,none⟩=some (bv 16):=by have:=hc' 0 16 hd;rwa [Nat.add_zero] at this
 have hgz:g<w.heap.size:=zAj hcell;clear hrow hd _hb hc'
 go_enter func105,ntmps105
 go_wp2_with fail
 refine(H1.out _ ((G.refl w).alloc _)).mono ?_;rintro e w1 ⟨n,j,rfl,hn,hp,_,hw⟩;rw[hw];have HP:Hid (zAu bs 5 n 0 E0):=gid' (by omega) HD.out hp;clear hw hp H1
 go_wp2
 exact bodyPost_ret (v:=V 5 n 0 E0) (by simp[results,results105,go_sem]) rfl ⟨5,n,0,E0,rfl,hn,R0,by decide,HP.out,by repeat(first|exact G.refl _|assumption|refine G.alloc ?_ _|refine G.drew ?_|refine G.setCell ?_ (by simp) _)⟩
theorem zXx(g o cap:Nat)(bs:List Nat)(w:World)(_hcap:bs.length≤cap)(_hb:∀d∈bs,d<256)(_hl:bs.length≤140737488355328)(hlen:0<bs.length)(hrow:RowB w (.slice (some ⟨g,o,none⟩) bs.length cap) bs)(hd:bs[0]?=some 17):Calls prog 105 #[.slice (some ⟨g,o,none⟩) bs.length cap] w (GBA bs w):=by
 have H1:Hid (∀W,G w W→Calls prog 143 #[.slice (some ⟨g,o,none⟩) bs.length cap,.int .i64 1] W (NUA bs 1 W)):=fun W g=>zFp _ bs 1 W (hrow.G g) _hb _hl (by omega);have HD:Hid _:=hd
 have hc':∀i d,bs[i]?=some d→w.cell? ⟨g,o+i,none⟩=some (bv d):=fun i d hi=>by
  obtain⟨p,cap',he,_,hc⟩:=hrow;cases he;obtain⟨g',o',h1,h2⟩:=hc i d hi;cases h1;exact h2
 have hlti:(0:Int)<(bs.length:Int):=by omega
 have hcell:w.cell? ⟨g,o,none⟩=some (bv 17):=by have:=hc' 0 17 hd;rwa [Nat.add_zero] at this
 have hgz:g<w.heap.size:=zAj hcell;clear hrow hd _hb hc'
 go_enter func105,ntmps105
 go_wp2_with fail
 refine(H1.out _ ((G.refl w).alloc _)).mono ?_;rintro e w1 ⟨n,j,rfl,hn,hp,_,hw⟩;rw[hw];have HP:Hid (zAu bs 6 n 0 E0):=gid' (by omega) HD.out hp;clear hw hp H1
 go_wp2
 exact bodyPost_ret (v:=V 6 n 0 E0) (by simp[results,results105,go_sem]) rfl ⟨6,n,0,E0,rfl,hn,R0,by decide,HP.out,by repeat(first|exact G.refl _|assumption|refine G.alloc ?_ _|refine G.drew ?_|refine G.setCell ?_ (by simp) _)⟩
theorem zSq(g o cap:Nat)(bs:List Nat)(w:World)(_hcap:bs.length≤cap)(_hb:∀d∈bs,d<256)(_hl:bs.length≤140737488355328)(hlen:0<bs.length)(hrow:RowB w (.slice (some ⟨g,o,none⟩) bs.length cap) bs)(d:Nat)(hd:bs[0]?=some d)(hne':d≠80∧d≠48∧d≠32∧d≠16∧d≠17):Calls prog 105 #[.slice (some ⟨g,o,none⟩) bs.length cap] w (GBA bs w):=by
 have H1:Hid (∀W,G w W→Calls prog 143 #[.slice (some ⟨g,o,none⟩) bs.length cap,.int .i64 0] W (NUA bs 0 W)):=fun W g=>zFp _ bs 0 W (hrow.G g) _hb _hl (by omega);have HJ:Hid (∀W j,G w W→j≤257→Calls prog 143 #[.slice (some ⟨g,o,none⟩) bs.length cap,.int .i64 ((j:Nat):Int)] W (NUA bs j W)):=fun W j g hj=>zFp _ bs j W (hrow.G g) _hb _hl (by omega);have HD:Hid _:=hd;have HN:Hid _:=hne'
 have hc':∀i d,bs[i]?=some d→w.cell? ⟨g,o+i,none⟩=some (bv d):=fun i d hi=>by
  obtain⟨p,cap',he,_,hc⟩:=hrow;cases he;obtain⟨g',o',h1,h2⟩:=hc i d hi;cases h1;exact h2
 have hlti:(0:Int)<(bs.length:Int):=by omega
 have hcell:w.cell? ⟨g,o,none⟩=some (bv d):=by have:=hc' 0 d hd;rwa [Nat.add_zero] at this
 have hgz:g<w.heap.size:=zAj hcell;have n80:((d:Int)==80)=false:=beq_false_of_ne (by omega);have n48:((d:Int)==48)=false:=beq_false_of_ne (by omega);have n32:((d:Int)==32)=false:=beq_false_of_ne (by omega);have n16:((d:Int)==16)=false:=beq_false_of_ne (by omega);have n17:((d:Int)==17)=false:=beq_false_of_ne (by omega);have HC:Hid _:=hc';clear hrow hd _hb hc' hne'
 go_enter func105,ntmps105
 go_wp2_with fail
 refine(H1.out _ ((G.refl w).alloc _)).mono ?_;rintro e w1 ⟨n,j,rfl,hn,hp,hj,hw⟩;rw[hw];clear hw H1
 have hj':j≤256:=by omega
 by_cases hjl:j<bs.length
 ·have hjli:(j:Int)<(bs.length:Int):=by omega
  obtain⟨d1,hd1⟩:∃d1,bs[j]?=some d1:=⟨_,List.getElem?_eq_getElem hjl⟩;have hcj:=HC.out j d1 hd1
  by_cases h1:d1=1
  ·subst h1
   have HH1:Hid _:=hd1;have HP0:Hid _:=hp;have H2:Hid _:=fun W g=>HJ.out W (j+1) g (by omega);clear HJ hp hd1
   go_wp2_with fail
   refine(H2.out _ ((G.refl w).alloc _)).mono ?_;rintro e w2 ⟨m,j2,rfl,hm,hp2,_,hw2⟩;rw[hw2];have HP:Hid (zAu bs 3 n m E0):=gnum HD.out HN.out (gnp' HP0.out HH1.out hp2);clear hw2 H2 hp2
   go_wp2_with fail
   refine(rdp n m _).mono ?_;rintro e w1 ⟨rfl,hb1⟩;have hcz:∀o,w1.cell? {block:=w.heap.size,off:=o}=[I 0,I 0,I 0,.string E0][o]?:=G.cells hb1 (by simp) (by simp);have hfz:∀o,w1.frozen? {block:=w.heap.size,off:=o}=false:=G.frozens hb1 (by simp) (by simp);have HG:Hid (G w w1):=((G.refl w).alloc _).trans hb1;clear hb1
   go_wp2
   exact bodyPost_ret (v:=V 3 n m E0) (by simp[results,results105,go_sem,hcz]) rfl ⟨3,n,m,E0,rfl,hn,hm,by decide,HP.out,by repeat(first|exact G.refl _|assumption|exact HG.out|refine G.alloc ?_ _|refine G.drewNE ?_ _|refine G.drew ?_|refine G.setCell ?_ (by simp) _)⟩
  ·have HP:Hid (zAu bs 2 n 0 E0):=gnum HD.out HN.out (gnw' hp (by rw[hd1];simp;exact h1))
   have h1n:((d1:Int)==1)=false:=beq_false_of_ne (by omega);clear HJ hp hd1 h1
   go_wp2_with fail
   refine(rdw n _).mono ?_;rintro e w1 ⟨rfl,hb1⟩;have hcz:∀o,w1.cell? {block:=w.heap.size,off:=o}=[I 0,I 0,I 0,.string E0][o]?:=G.cells hb1 (by simp) (by simp);have hfz:∀o,w1.frozen? {block:=w.heap.size,off:=o}=false:=G.frozens hb1 (by simp) (by simp);have HG:Hid (G w w1):=((G.refl w).alloc _).trans hb1;clear hb1
   go_wp2
   exact bodyPost_ret (v:=V 2 n 0 E0) (by simp[results,results105,go_sem,hcz]) rfl ⟨2,n,0,E0,rfl,hn,R0,by decide,HP.out,by repeat(first|exact G.refl _|assumption|exact HG.out|refine G.alloc ?_ _|refine G.drewNE ?_ _|refine G.drew ?_|refine G.setCell ?_ (by simp) _)⟩
 ·have hjli:¬(j:Int)<(bs.length:Int):=by omega
  have HP:Hid (zAu bs 2 n 0 E0):=gnum HD.out HN.out (gnw' hp (by rw[List.getElem?_eq_none (by omega)];simp));clear HJ hp
  go_wp2_with fail
  refine(rdw n _).mono ?_;rintro e w1 ⟨rfl,hb1⟩;have hcz:∀o,w1.cell? {block:=w.heap.size,off:=o}=[I 0,I 0,I 0,.string E0][o]?:=G.cells hb1 (by simp) (by simp);have hfz:∀o,w1.frozen? {block:=w.heap.size,off:=o}=false:=G.frozens hb1 (by simp) (by simp);have HG:Hid (G w w1):=((G.refl w).alloc _).trans hb1;clear hb1
  go_wp2
  exact bodyPost_ret (v:=V 2 n 0 E0) (by simp[results,results105,go_sem,hcz]) rfl ⟨2,n,0,E0,rfl,hn,R0,by decide,HP.out,by repeat(first|exact G.refl _|assumption|exact HG.out|refine G.alloc ?_ _|refine G.drewNE ?_ _|refine G.drew ?_|refine G.setCell ?_ (by simp) _)⟩
theorem zSp(g o cap:Nat)(bs:List Nat)(w:World)(_hcap:bs.length≤cap)(_hb:∀d∈bs,d<256)(_hl:bs.length≤140737488355328)(hlen:0<bs.length)(hrow:RowB w (.slice (some ⟨g,o,none⟩) bs.length cap) bs)(hd:bs[0]?=some 48)(hl1:¬1<bs.length):Calls prog 105 #[.slice (some ⟨g,o,none⟩) bs.length cap] w (GBA bs w):=by
 have H1:Hid (∀W,G w W→Calls prog 143 #[.slice (some ⟨g,o,none⟩) bs.length cap,.int .i64 0] W (NUA bs 0 W)):=fun W g=>zFp _ bs 0 W (hrow.G g) _hb _hl (by omega);have HJ:Hid (∀W j,G w W→j≤257→Calls prog 143 #[.slice (some ⟨g,o,none⟩) bs.length cap,.int .i64 ((j:Nat):Int)] W (NUA bs j W)):=fun W j g hj=>zFp _ bs j W (hrow.G g) _hb _hl (by omega);have HD:Hid _:=hd
 have hc':∀i d,bs[i]?=some d→w.cell? ⟨g,o+i,none⟩=some (bv d):=fun i d hi=>by
  obtain⟨p,cap',he,_,hc⟩:=hrow;cases he;obtain⟨g',o',h1,h2⟩:=hc i d hi;cases h1;exact h2
 have hlti:(0:Int)<(bs.length:Int):=by omega
 have hcell:w.cell? ⟨g,o,none⟩=some (bv 48):=by have:=hc' 0 48 hd;rwa [Nat.add_zero] at this
 have hgz:g<w.heap.size:=zAj hcell
 have hl1i:¬(1:Int)<(bs.length:Int):=by omega
 have HC:Hid _:=hc';clear hrow hd _hb hc'
 go_enter func105,ntmps105
 go_wp2_with fail
 refine(H1.out _ ((G.refl w).alloc _)).mono ?_;rintro e w1 ⟨n,j,rfl,hn,hp,hj,hw⟩;rw[hw];clear hw H1
 have hj':j≤256:=by omega
 by_cases hjl:j<bs.length
 ·have hjli:(j:Int)<(bs.length:Int):=by omega
  obtain⟨d1,hd1⟩:∃d1,bs[j]?=some d1:=⟨_,List.getElem?_eq_getElem hjl⟩;have hcj:=HC.out j d1 hd1
  by_cases h1:d1=1
  ·subst h1
   have HH1:Hid _:=hd1;have HP0:Hid _:=hp;have H2:Hid _:=fun W g=>HJ.out W (j+1) g (by omega);clear HJ hp hd1
   go_wp2_with fail
   refine(H2.out _ ((G.refl w).alloc _)).mono ?_;rintro e w2 ⟨m,j2,rfl,hm,hp2,_,hw2⟩;rw[hw2];have HP:Hid (zAu bs 3 n m E0):=g48' HD.out (by omega);clear hw2 H2 hp2
   go_wp2_with fail
   refine(rdp n m _).mono ?_;rintro e w1 ⟨rfl,hb1⟩;have hcz:∀o,w1.cell? {block:=w.heap.size,off:=o}=[I 0,I 0,I 0,.string E0][o]?:=G.cells hb1 (by simp) (by simp);have hfz:∀o,w1.frozen? {block:=w.heap.size,off:=o}=false:=G.frozens hb1 (by simp) (by simp);have HG:Hid (G w w1):=((G.refl w).alloc _).trans hb1;clear hb1
   go_wp2
   exact bodyPost_ret (v:=V 3 n m E0) (by simp[results,results105,go_sem,hcz]) rfl ⟨3,n,m,E0,rfl,hn,hm,by decide,HP.out,by repeat(first|exact G.refl _|assumption|exact HG.out|refine G.alloc ?_ _|refine G.drewNE ?_ _|refine G.drew ?_|refine G.setCell ?_ (by simp) _)⟩
  ·have HP:Hid (zAu bs 2 n 0 E0):=g48' HD.out (by omega)
   have h1n:((d1:Int)==1)=false:=beq_false_of_ne (by omega);clear HJ hp hd1 h1
   go_wp2_with fail
   refine(rdw n _).mono ?_;rintro e w1 ⟨rfl,hb1⟩;have hcz:∀o,w1.cell? {block:=w.heap.size,off:=o}=[I 0,I 0,I 0,.string E0][o]?:=G.cells hb1 (by simp) (by simp);have hfz:∀o,w1.frozen? {block:=w.heap.size,off:=o}=false:=G.frozens hb1 (by simp) (by simp);have HG:Hid (G w w1):=((G.refl w).alloc _).trans hb1;clear hb1
   go_wp2
   exact bodyPost_ret (v:=V 2 n 0 E0) (by simp[results,results105,go_sem,hcz]) rfl ⟨2,n,0,E0,rfl,hn,R0,by decide,HP.out,by repeat(first|exact G.refl _|assumption|exact HG.out|refine G.alloc ?_ _|refine G.drewNE ?_ _|refine G.drew ?_|refine G.setCell ?_ (by simp) _)⟩
 ·have hjli:¬(j:Int)<(bs.length:Int):=by omega
  have HP:Hid (zAu bs 2 n 0 E0):=g48' HD.out (by omega);clear HJ hp
  go_wp2_with fail
  refine(rdw n _).mono ?_;rintro e w1 ⟨rfl,hb1⟩;have hcz:∀o,w1.cell? {block:=w.heap.size,off:=o}=[I 0,I 0,I 0,.string E0][o]?:=G.cells hb1 (by simp) (by simp);have hfz:∀o,w1.frozen? {block:=w.heap.size,off:=o}=false:=G.frozens hb1 (by simp) (by simp);have HG:Hid (G w w1):=((G.refl w).alloc _).trans hb1;clear hb1
  go_wp2
  exact bodyPost_ret (v:=V 2 n 0 E0) (by simp[results,results105,go_sem,hcz]) rfl ⟨2,n,0,E0,rfl,hn,R0,by decide,HP.out,by repeat(first|exact G.refl _|assumption|exact HG.out|refine G.alloc ?_ _|refine G.drewNE ?_ _|refine G.drew ?_|refine G.setCell ?_ (by simp) _)⟩
end
section
open Go.RowKit Go.Shelf Go.PlainAid Go.Lib
theorem zXw(g o cap:Nat)(bs:List Nat)(w:World)(_hb:∀d∈bs,d<256)(_hl:bs.length≤140737488355328)(hlen:0<bs.length)(hrow:RowB w (.slice (some ⟨g,o,none⟩) bs.length cap) bs)(hd:bs[0]?=some 32):Calls prog 105 #[.slice (some ⟨g,o,none⟩) bs.length cap] w (GBA bs w):=by
 obtain⟨i0,hi,hz0,hz1,hz2⟩:=info_parts zAW
 have hc':∀i d,bs[i]?=some d→w.cell? ⟨g,o+i,none⟩=some (bv d):=fun i d hi=>by
  obtain⟨p,cap',he,_,hc⟩:=hrow;cases he;obtain⟨g',o',h1,h2⟩:=hc i d hi;cases h1;exact h2
 have hlti:(0:Int)<(bs.length:Int):=by omega
 have hcell:w.cell? ⟨g,o,none⟩=some (bv 32):=by have:=hc' 0 32 hd;rwa [Nat.add_zero] at this
 have hgz:g<w.heap.size:=zAj hcell;have HD:Hid _:=hd;have HC:Hid _:=hc';have HB256:Hid _:=_hb;clear hrow hd hc' _hb
 go_enter func105,ntmps105
 go_wp2
 have hg1:G w (w.alloc (.cells #[I 0,I 0,I 0,.string E0] 31)):=(G.refl w).alloc _
 have hcz:∀o,(w.alloc (.cells #[I 0,I 0,I 0,.string E0] 31)).cell? {block:=w.heap.size,off:=o}=[I 0,I 0,I 0,.string E0][o]?:=fun o=>by simp
 have hfz:∀o,(w.alloc (.cells #[I 0,I 0,I 0,.string E0] 31)).frozen? {block:=w.heap.size,off:=o}=false:=fun o=>by simp
 have hzw:w.heap.size<(w.alloc (.cells #[I 0,I 0,I 0,.string E0] 31)).heap.size:=by simp
 generalize w.alloc (.cells #[I 0,I 0,I 0,.string E0] 31)=w1 at hg1 hcz hfz hzw⊢;have HG1:Hid (G w w1):=hg1;have HC1:Hid (∀i d,bs[i]?=some d→w1.cell? ⟨g,o+i,none⟩=some (bv d)):=fun i d hi=>(HG1.out.cell hgz).trans (HC.out i d hi);clear hg1 HC hcell
 go_loopw [7,8] (fun y k W=>∃(m:Nat) (xs:List Nat),1+m≤bs.length∧k=.int .i64 (1+(m:Int))∧xs.length≤m∧TPr (bs.drop 1) m xs∧Bw w1 W y xs) (fun _ k _=>bs.length-(RowKit.intOf k).toNat)
 case atStart=>exact⟨0,[],by omega,rfl,by simp,zIA _,Bw.nil w1 w1 (G.refl w1)⟩
 case round=>
  obtain⟨m,xs,hm,rfl,hxm,hp,hB⟩:=hrel;have hsz:=hB.g.size;have hcr:∀o,wr.cell? {block:=w.heap.size,off:=o}=[I 0,I 0,I 0,.string E0][o]?:=G.cells hB.g hcz hzw;have hfr:∀o,wr.frozen? {block:=w.heap.size,off:=o}=false:=G.frozens hB.g hfz hzw;have HB:Hid (Bw w1 wr u7 xs):=hB;have HPr:Hid _:=hp;clear hB hp;have hdrop:∀i,(bs.drop 1)[i]?=bs[1+i]?:=fun i=>List.getElem?_drop;have HDr:Hid _:=hdrop;clear hdrop
  by_cases hlt:1+m<bs.length
  ·have hii:1+(m:Int)<(bs.length:Int):=by omega
   obtain⟨d,hd⟩:∃d,bs[1+m]?=some d:=⟨_,List.getElem?_eq_getElem hlt⟩;have hw1c:=HC1.out (1+m) d hd;have hc1:wr.cell? ⟨g,o+(1+m),none⟩=some (bv d):=(HB.out.g.cell (zAj hw1c)).trans hw1c
   by_cases hd0:d≠0
   ·have HPP:Hid (TPr (bs.drop 1) (m+1) (xs++[d])):=zIB HPr.out (by rw[HDr.out];exact hd) hd0
    have hd0n:((d:Int)==0)=false:=beq_false_of_ne (by omega);clear hd HPr
    go_wp2_with (at_builtin;refine wpList_append_own _ rfl _ _ 33 rfl w1.heap.size 5 i0 (.int .u8 0) 1 1 underlying33 hi hz0 hz1 hz2 rfl (by decide) _ _ _ rfl (World.ownsRow.alloc HB.out.own _) ⟨wr.heap.size,0,none⟩ 1 1 [bv d] rfl ?c0 ?c1 ?c2 ?c3 ?c4 ?c5 ?_)
    case c0=>rfl
    case c1=>
     intro j u hj
     match j,hj with
     | 0,hj=>simp at hj;subst hj;simp[Addr.add]
    case c2=>first|rfl|(intro u hu;simp at hu;subst hu;rfl)
    case c3=>unfold maxLen;(first|omega|(simp;omega))
    case c4=>(first|omega|(simp;omega))
    case c5=>(first|omega|(simp;omega))
    intro x2 w2 hown hgrow _;have HB2:Hid (Bw w1 w2 x2 (xs++[d])):=(HB.out.keep ((G.refl _).alloc _)).app [d] 1 rfl (by simpa using hown) hgrow;have hc2':w2.cell? ⟨g,o+(1+m),none⟩=some (bv d):=(HB2.out.g.cell (zAj hw1c)).trans hw1c;clear hown hgrow HB
    go_wp2
    go_roundw
    case rel=>exact⟨m+1,xs++[d],by omega,by go_num,by simp;omega,HPP.out,HB2.out⟩
    case measure=>simp[RowKit.intOf];omega
   ·have hd0':d=0:=by omega
    subst hd0';clear hd0
    by_cases hl1:1+m+1<bs.length
    ·have hl1i:¬(bs.length:Int)≤1+(m:Int)+1:=by omega
     have hl1j:1+(m:Int)+1<(bs.length:Int):=by omega
     obtain⟨d1,hd1⟩:∃d,bs[1+m+1]?=some d:=⟨_,List.getElem?_eq_getElem hl1⟩;have hw2c:=HC1.out (1+m+1) d1 hd1;have hcd:wr.cell? ⟨g,o+(1+m+1),none⟩=some (bv d1):=(HB.out.g.cell (zAj hw2c)).trans hw2c
     by_cases h255:d1=255
     ·subst h255
      have HPP:Hid (TPr (bs.drop 1) (m+2) (xs++[0])):=zLm HPr.out (by rw[HDr.out];exact hd) (by rw[HDr.out];exact hd1) (by decide);clear hd hd1 HPr
      go_wp2_with (at_builtin;refine wpList_append_own _ rfl _ _ 33 rfl w1.heap.size 5 i0 (.int .u8 0) 1 1 underlying33 hi hz0 hz1 hz2 rfl (by decide) _ _ _ rfl (World.ownsRow.alloc HB.out.own _) ⟨wr.heap.size,0,none⟩ 1 1 [bv 0] rfl ?c0 ?c1 ?c2 ?c3 ?c4 ?c5 ?_)
      case c2=>first|rfl|(intro u hu;simp at hu;subst hu;rfl)
      case c3=>unfold maxLen;(first|omega|(simp;omega))
      case c4=>(first|omega|(simp;omega))
      case c5=>(first|omega|(simp;omega))
      intro x2 w2 hown hgrow _;have HB2:Hid (Bw w1 w2 x2 (xs++[0])):=(HB.out.keep ((G.refl _).alloc _)).app [0] 1 rfl (by simpa using hown) hgrow;have hc2':w2.cell? ⟨g,o+(1+m),none⟩=some (bv 0):=(HB2.out.g.cell (zAj hw1c)).trans hw1c;clear hown hgrow HB
      go_wp2
      go_roundw
      case rel=>exact⟨m+2,xs++[0],by omega,by go_num,by simp;omega,HPP.out,HB2.out⟩
      case measure=>simp[RowKit.intOf];omega
     ·have hne:((d1:Int) != 255)=true:=bne_iff_ne.2 (by omega)
      clear hw2c;have hcv:(convert 33 9 u7).run prog wr=.ok (.string (strN xs)) wr:=zBA HB.out.row;have HP:Hid (zAu bs 4 0 0 (strN xs)):=g32 HD.out (zD6 HPr.out (by rw[HDr.out];exact hd) (by rw[HDr.out,←Nat.add_assoc,hd1];simp;exact h255));have HG:Hid (G w wr):=HG1.out.trans HB.out.g
      have hsn:(strN xs).size≤4611686018427387904:=by rw[zCx];omega
      have HSz:Hid ((strN xs).size≤4611686018427387904):=hsn;clear HB HPr hsn
      go_wp2
      exact bodyPost_ret (v:=V 4 0 0 (strN xs)) (by simp[results,results105,go_sem,hcr]) rfl ⟨4,0,0,strN xs,rfl,R0,R0,HSz.out,HP.out,by repeat(first|exact G.refl _|assumption|exact HG.out|refine G.alloc ?_ _|refine G.drewNE ?_ _|refine G.drew ?_|refine G.setCell ?_ (by simp) _)⟩
    ·have hl1i:(bs.length:Int)≤1+(m:Int)+1:=by omega
     have hcv:(convert 33 9 u7).run prog wr=.ok (.string (strN xs)) wr:=zBA HB.out.row;have HP:Hid (zAu bs 4 0 0 (strN xs)):=g32 HD.out (zD6 HPr.out (by rw[HDr.out];exact hd) (by rw[HDr.out,List.getElem?_eq_none (by omega)];simp));have HG:Hid (G w wr):=HG1.out.trans HB.out.g
     have hsn:(strN xs).size≤4611686018427387904:=by rw[zCx];omega
     have HSz:Hid ((strN xs).size≤4611686018427387904):=hsn;clear HB HPr hsn
     go_wp2
     exact bodyPost_ret (v:=V 4 0 0 (strN xs)) (by simp[results,results105,go_sem,hcr]) rfl ⟨4,0,0,strN xs,rfl,R0,R0,HSz.out,HP.out,by repeat(first|exact G.refl _|assumption|exact HG.out|refine G.alloc ?_ _|refine G.drewNE ?_ _|refine G.drew ?_|refine G.setCell ?_ (by simp) _)⟩
  ·have hii:¬1+(m:Int)<(bs.length:Int):=by omega
   have hcv:(convert 33 9 u7).run prog wr=.ok (.string (strN xs)) wr:=zBA HB.out.row;have HP:Hid (zAu bs 4 0 0 (strN xs)):=g32 HD.out (zLn HPr.out (.inl (by rw[List.length_drop];omega)));have HG:Hid (G w wr):=HG1.out.trans HB.out.g
   have hsn:(strN xs).size≤4611686018427387904:=by rw[zCx];omega
   have HSz:Hid ((strN xs).size≤4611686018427387904):=hsn;clear HB HPr hsn
   go_wp2
   exact bodyPost_ret (v:=V 4 0 0 (strN xs)) (by simp[results,results105,go_sem,hcr]) rfl ⟨4,0,0,strN xs,rfl,R0,R0,HSz.out,HP.out,by repeat(first|exact G.refl _|assumption|exact HG.out|refine G.alloc ?_ _|refine G.drewNE ?_ _|refine G.drew ?_|refine G.setCell ?_ (by simp) _)⟩
theorem zVo(x:Value)(bs:List Nat)(w:World)(hx:RowB w x bs)(hb:∀d∈bs,d<256)(hl:bs.length≤140737488355328)(h0:0<bs.length):Calls prog 105 #[x] w (GBA bs w):=by
 have hrow:=hx;obtain⟨p,cap,rfl,hcap,hc⟩:=hx;obtain⟨d,hd⟩:∃d0,bs[0]?=some d0:=⟨_,List.getElem?_eq_getElem (by omega)⟩;obtain⟨g,o,rfl,hcell⟩:=hc 0 d hd
 by_cases h80:d=80
 ·subst h80;exact zXv g o cap bs w hcap hb hl h0 hrow hd
 by_cases h48:d=48
 ·subst h48
  by_cases h1:1<bs.length
  ·obtain⟨d1,hd1⟩:∃d0,bs[1]?=some d0:=⟨_,List.getElem?_eq_getElem h1⟩
   by_cases h11:d1=1
   ·subst h11;exact zVp g o cap bs w hcap hb hl h0 hrow hd hd1
   ·exact zVq g o cap bs w hcap hb hl h0 hrow hd d1 hd1 h11
  ·exact zSp g o cap bs w hcap hb hl h0 hrow hd h1
 by_cases h32:d=32
 ·subst h32;exact zXw g o cap bs w hb hl h0 hrow hd
 by_cases h16:d=16
 ·subst h16;exact zXy g o cap bs w hcap hb hl h0 hrow hd
 by_cases h17:d=17
 ·subst h17;exact zXx g o cap bs w hcap hb hl h0 hrow hd
 exact zSq g o cap bs w hcap hb hl h0 hrow d hd ⟨h80,h48,h32,h16,h17⟩
end
end Go.Proofs.YthmdjhfbhbheeaaGreatDoor
