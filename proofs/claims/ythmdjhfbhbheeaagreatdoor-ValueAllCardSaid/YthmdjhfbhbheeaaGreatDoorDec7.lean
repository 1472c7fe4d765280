import Derived.Test.YthmdjhfbhbheeaaGreatDoorDec4
namespace Go.Proofs.YthmdjhfbhbheeaaGreatDoor
open Go.Proofs.Tryz
set_option maxHeartbeats 8000000
set_option maxRecDepth 100000
section
open Go.RowKit Go.Shelf Go.PlainAid Go.Lib
theorem isE(s:ByteArray)(h:s.toList.isEmpty=true):s=E0:=by
 have h1:s.data.toList=[]:=by
  have:=List.isEmpty_iff.1 h
  rwa [ByteArray.toList_eq] at this
 cases s with
 | mk d=>simp at h1;subst h1;rfl
def GuessP(bs:List Nat)(k a b:Int)(s:ByteArray):Prop:=
 ∀k0 a0 b0 s0 rest,okV k0 a0 b0 s0=true→R64 a0→R64 b0→bs=encV k0 a0 b0 s0++rest→k=k0∧a=a0∧b=b0∧s=s0
theorem enc_head(k a b:Int)(s:ByteArray)(h:okV k a b s=true)(ha:R64 a):∃c t,encV k a b s=c::t∧((k=0∧c=80)∨(k=1∧c=48)∨(k=4∧c=32)∨(k=5∧c=16)∨(k=6∧c=17)∨((k=2∨k=3)∧56≤c∧c≤72)):=by
 have hw:∃c t,encW a=c::t∧56≤c∧c≤72:=by
  have:=low_len a ha.1 ha.2
  refine⟨_,_,rfl,?_,?_⟩<;>split<;>omega
 obtain⟨c,t,hw,h1,h2⟩:=hw
 rcases okV_kindE h with rfl|rfl|rfl|rfl|rfl|rfl|rfl
 ·exact⟨80,[],rfl,by simp⟩
 ·exact⟨48,[a.toNat],rfl,by simp⟩
 ·refine⟨c,t++[0],?_,by simp;omega⟩
  show encW a++[0]=_
  rw[hw];rfl
 ·refine⟨c,t++[1]++encW b,?_,by simp;omega⟩
  show(encW a++[1])++encW b=_
  rw[hw];simp
 ·exact⟨32,strB s s.size++[0,0],rfl,by simp⟩
 ·exact⟨16,encW a,rfl,by simp⟩
 ·exact⟨17,encW a,rfl,by simp⟩
theorem head_of{bs rest:List Nat}{k a b:Int}{s:ByteArray}{d:Nat}(h:okV k a b s=true)(ha:R64 a)(he:bs=encV k a b s++rest)(hd:bs[0]?=some d) :
  (k=0∧d=80)∨(k=1∧d=48)∨(k=4∧d=32)∨(k=5∧d=16)∨(k=6∧d=17)∨((k=2∨k=3)∧56≤d∧d≤72):=by
 obtain⟨c,t,h1,h2⟩:=enc_head k a b s h ha
 rw[he,h1] at hd
 cases hd
 exact h2
theorem g80{bs:List Nat}(hd:bs[0]?=some 80):GuessP bs 0 0 0 E0:=by
 intro k0 a0 b0 s0 rest hok ha hb he
 have hk:k0=0:=by have:=head_of hok ha he hd;omega
 subst hk
 simp[okV,Bool.and_eq_true] at hok
 exact⟨rfl,hok.1.1.symm,hok.1.2.symm,(isE s0 (List.isEmpty_iff.2 hok.2)).symm⟩
theorem g48{bs:List Nat}(hd:bs[0]?=some 48):GuessP bs 1 (if (bs.drop 1)[0]?=some 1 then 1 else 0) 0 E0:=by
 intro k0 a0 b0 s0 rest hok ha hb he
 have hk:k0=1:=by have:=head_of hok ha he hd;omega
 subst hk
 have he':bs=48::a0.toNat::rest:=he
 simp[okV,Bool.and_eq_true] at hok
 refine⟨rfl,?_,hok.1.2.symm,(isE s0 (List.isEmpty_iff.2 hok.2)).symm⟩
 rw[he']
 rcases hok.1.1 with rfl|rfl<;>simp
theorem g32{bs:List Nat}{s:ByteArray}(hd:bs[0]?=some 32)(h:TSP (bs.drop 1) s):GuessP bs 4 0 0 s:=by
 intro k0 a0 b0 s0 rest hok ha hb he
 have hk:k0=4:=by have:=head_of hok ha he hd;omega
 subst hk
 have he':bs=32::(strB s0 s0.size++(0::0::rest)):=by rw[he];simp[encV]
 simp[okV,Bool.and_eq_true] at hok
 exact⟨rfl,hok.1.1.1.symm,hok.1.1.2.symm,h s0 rest hok.1.2 (by rw[he'];rfl)⟩
theorem gid{bs ts:List Nat}{n:Int}{c:Nat}{k:Int}(hck:(c=16∧k=5)∨(c=17∧k=6))(hd:bs[0]?=some c)(h:TWP (bs.drop 1) n ts):GuessP bs k n 0 E0:=by
 intro k0 a0 b0 s0 rest hok ha hb he
 have hk:k0=k:=by have:=head_of hok ha he hd;omega
 subst hk
 have he':bs=c::(encW a0++rest):=by
  rcases hck with ⟨rfl,rfl⟩|⟨rfl,rfl⟩<;>rw[he]<;>simp[encV]
 have hok':b0=0∧s0=E0:=by
  rcases hck with ⟨rfl,rfl⟩|⟨rfl,rfl⟩<;>(simp[okV,Bool.and_eq_true] at hok;exact⟨hok.1.2,isE s0 (List.isEmpty_iff.2 hok.2)⟩)
 exact⟨rfl,(h a0 rest ha (by rw[he'];rfl)).1,hok'.1.symm,hok'.2.symm⟩
theorem gnum{bs:List Nat}{k a b:Int}{d:Nat}(hd:bs[0]?=some d)(hne:d≠80∧d≠48∧d≠32∧d≠16∧d≠17)(h:GNP bs k a b E0):GuessP bs k a b E0:=by
 intro k0 a0 b0 s0 rest hok ha hb he
 have hk:k0=2∨k0=3:=by have:=head_of hok ha he hd;omega
 rcases hk with rfl|rfl
 ·simp[okV,Bool.and_eq_true] at hok
  obtain⟨h1,h2,h3,_⟩:=h.1 a0 rest ha he
  exact⟨h1,h2,by rw[h3,hok.1],(isE s0 (List.isEmpty_iff.2 hok.2)).symm⟩
 ·simp[okV,Bool.and_eq_true] at hok
  obtain⟨h1,h2,h3,_⟩:=h.2 a0 b0 rest ha hb he
  exact⟨h1,h2,h3,(isE s0 (List.isEmpty_iff.2 hok.2)).symm⟩
theorem gnil{bs:List Nat}(hd:bs.length=0):GuessP bs 0 0 0 E0:=by
 intro k0 a0 b0 s0 rest hok ha hb he
 obtain⟨c,t,h1,_⟩:=enc_head k0 a0 b0 s0 hok ha
 rw[he,h1] at hd
 simp at hd
theorem strN_size(xs:List Nat):(strN xs).size=xs.length:=by
 have e:(strN xs).toList=bytesOf (xs.map fun d:Nat=>(d:Int)):=strOfNums_toList _
 have h2:(strN xs).toList.length=(strN xs).size:=by rw[ByteArray.toList_eq];simp
 rw[←h2,e];simp[bytesOf]
def GBA(bs:List Nat)(w:World)(e:Ending)(w':World):Prop:=∃(k a b:Int) (s:ByteArray),e=.returned (V k a b s)∧R64 a∧R64 b∧s.size≤4611686018427387904∧GuessP bs k a b s∧G w w'
theorem R0:R64 0:=by unfold R64;omega
theorem gb_nil(p:Option Addr)(cap:Nat)(bs:List Nat)(w:World)(h0:bs.length=0):Calls prog 103 #[.slice p bs.length cap] w (GBA bs w):=by
 have HP:Hid (GuessP bs 0 0 0 E0):=gnil h0
 rw[h0]
 go_enter func103,ntmps103
 go_wp2
 exact bodyPost_ret (v:=V 0 0 0 E0) (by simp[results,results103,go_sem]) rfl ⟨0,0,0,E0,rfl,R0,R0,by decide,HP.out,by repeat(first|exact G.refl _|assumption|refine G.alloc ?_ _|refine G.drew ?_|refine G.setCell ?_ (by simp) _)⟩
theorem gb_80(g o cap:Nat)(bs:List Nat)(w:World)(_hcap:bs.length≤cap)(_hb:∀d∈bs,d<256)(_hl:bs.length≤140737488355328)(hlen:0<bs.length)(hrow:RowB w (.slice (some ⟨g,o,none⟩) bs.length cap) bs)(hd:bs[0]?=some 80):Calls prog 103 #[.slice (some ⟨g,o,none⟩) bs.length cap] w (GBA bs w):=by
 have HP:Hid (GuessP bs 0 0 0 E0):=g80 hd
 have hne:((bs.length:Int)==0)=false:=beq_false_of_ne (by omega)
 have hlti:(0:Int)<(bs.length:Int):=by omega
 have hcell:w.cell? ⟨g,o,none⟩=some (bv 80):=by
  obtain⟨p,cap',he,_,hc⟩:=hrow
  cases he
  obtain⟨g',o',h1,h2⟩:=hc 0 80 hd
  cases h1;exact h2
 have hgz:g<w.heap.size:=cell_ltE hcell
 clear hrow hd _hb
 go_enter func103,ntmps103
 go_wp2
 exact bodyPost_ret (v:=V 0 0 0 E0) (by simp[results,results103,go_sem]) rfl ⟨0,0,0,E0,rfl,R0,R0,by decide,HP.out,by repeat(first|exact G.refl _|assumption|refine G.alloc ?_ _|refine G.drew ?_|refine G.setCell ?_ (by simp) _)⟩
theorem gb_48a(g o:Nat)(bs:List Nat)(w:World)(_hb:∀d∈bs,d<256)(_hl:bs.length≤140737488355328)(hlen:0<bs.length)(hrow:RowB w (.slice (some ⟨g,o,none⟩) bs.length 1) bs)(hd:bs[0]?=some 48):Calls prog 103 #[.slice (some ⟨g,o,none⟩) bs.length 1] w (GBA bs w):=by
 obtain⟨hl1,hrt⟩:=row_tail1 hrow hlen
 have hne:((bs.length:Int)==0)=false:=beq_false_of_ne (by omega)
 have hlti:(0:Int)<(bs.length:Int):=by omega
 have hcell:w.cell? ⟨g,o,none⟩=some (bv 48):=by
  obtain⟨p,cap',he,_,hc⟩:=hrow
  cases he
  obtain⟨g',o',h1,h2⟩:=hc 0 48 hd
  cases h1;exact h2
 have hgz:g<w.heap.size:=cell_ltE hcell
 have hbt:∀d∈bs.drop 1,d<256:=fun d hd=>_hb d (List.mem_of_mem_drop hd)
 have hlt:(bs.drop 1).length≤140737488355328:=by rw[List.length_drop];omega
 have hlt':(bs.drop 1).length≤bs.length:=by rw[List.length_drop];omega
 have H1:Hid (∀W,G w W→Calls prog 138 #[.slice (some ⟨g,o,none⟩) 0 0] W fun e w'=>e=.returned (V 1 (if (bs.drop 1)[0]?=some 1 then 1 else 0) 0 E0)∧G W w'):=fun W g=>gbo_any _ _ W (hrt.G g) hlt
 have HD:Hid _:=hd
 obtain⟨q,hq⟩:∃q:Int,q=if (bs.drop 1)[0]?=some 1 then 1 else 0:=⟨_,rfl⟩
 rw[←hq] at H1
 have HQ:Hid (GuessP bs 1 q 0 E0):=by rw[hq];exact g48 hd
 have hqr:R64 q:=by rw[hq];split<;>(unfold R64;omega)
 have HQR:Hid (R64 q):=hqr
 clear hq hqr
 rw[hl1]
 clear hrow hrt hd _hb hbt hlt
 go_enter func103,ntmps103
 go_wp2_with fail
 refine(H1.out _ ((G.refl w).alloc _)).mono ?_
 rintro e w1 ⟨rfl,hb1⟩
 have hc1:∀o,w1.cell? {block:=w.heap.size,off:=o}=[I 0,I 0,I 0,.string E0][o]?:=G.cells hb1 (by simp) (by simp)
 have hf1:∀o,w1.frozen? {block:=w.heap.size,off:=o}=false:=G.frozens hb1 (by simp) (by simp)
 have HG:Hid (G w w1):=((G.refl w).alloc _).trans hb1
 have HP:Hid (GuessP bs 1 (q) 0 E0):=HQ.out
 clear hb1 H1
 go_wp2
 exact bodyPost_ret (v:=V 1 (q) 0 E0) (by simp[results,results103,go_sem,hc1]) rfl ⟨1,q,0,E0,rfl,HQR.out,R0,by decide,HP.out,by repeat(first|exact G.refl _|assumption|exact HG.out|refine G.alloc ?_ _|refine G.drew ?_|refine G.setCell ?_ (by simp) _)⟩
theorem gb_32a(g o:Nat)(bs:List Nat)(w:World)(_hb:∀d∈bs,d<256)(_hl:bs.length≤140737488355328)(hlen:0<bs.length)(hrow:RowB w (.slice (some ⟨g,o,none⟩) bs.length 1) bs)(hd:bs[0]?=some 32):Calls prog 103 #[.slice (some ⟨g,o,none⟩) bs.length 1] w (GBA bs w):=by
 obtain⟨hl1,hrt⟩:=row_tail1 hrow hlen
 have hne:((bs.length:Int)==0)=false:=beq_false_of_ne (by omega)
 have hlti:(0:Int)<(bs.length:Int):=by omega
 have hcell:w.cell? ⟨g,o,none⟩=some (bv 32):=by
  obtain⟨p,cap',he,_,hc⟩:=hrow
  cases he
  obtain⟨g',o',h1,h2⟩:=hc 0 32 hd
  cases h1;exact h2
 have hgz:g<w.heap.size:=cell_ltE hcell
 have hbt:∀d∈bs.drop 1,d<256:=fun d hd=>_hb d (List.mem_of_mem_drop hd)
 have hlt:(bs.drop 1).length≤140737488355328:=by rw[List.length_drop];omega
 have hlt':(bs.drop 1).length≤bs.length:=by rw[List.length_drop];omega
 have H1:Hid (∀W,G w W→Calls prog 139 #[.slice (some ⟨g,o,none⟩) 0 0] W fun e w'=>∃xs,e=.returned (.string (strN xs))∧xs.length≤32∧TSP (bs.drop 1) (strN xs)∧G W w'):=fun W g=>ts_any _ _ W (hrt.G g) hlt
 have HD:Hid _:=hd
 rw[hl1]
 clear hrow hrt hd _hb hbt hlt
 go_enter func103,ntmps103
 go_wp2_with fail
 refine(H1.out _ ((G.refl w).alloc _)).mono ?_
 rintro e w1 ⟨xs,rfl,hx32,htp,hb1⟩
 have hc1:∀o,w1.cell? {block:=w.heap.size,off:=o}=[I 0,I 0,I 0,.string E0][o]?:=G.cells hb1 (by simp) (by simp)
 have hf1:∀o,w1.frozen? {block:=w.heap.size,off:=o}=false:=G.frozens hb1 (by simp) (by simp)
 have HG:Hid (G w w1):=((G.refl w).alloc _).trans hb1
 have HP:Hid (GuessP bs 4 (0) 0 (strN xs)):=g32 HD.out htp
 clear hb1 H1
 go_wp2
 exact bodyPost_ret (v:=V 4 (0) 0 (strN xs)) (by simp[results,results103,go_sem,hc1]) rfl ⟨4,0,0,(strN xs),rfl,R0,R0,by rw[strN_size];omega,HP.out,by repeat(first|exact G.refl _|assumption|exact HG.out|refine G.alloc ?_ _|refine G.drew ?_|refine G.setCell ?_ (by simp) _)⟩
theorem gb_16a(g o:Nat)(bs:List Nat)(w:World)(_hb:∀d∈bs,d<256)(_hl:bs.length≤140737488355328)(hlen:0<bs.length)(hrow:RowB w (.slice (some ⟨g,o,none⟩) bs.length 1) bs)(hd:bs[0]?=some 16):Calls prog 103 #[.slice (some ⟨g,o,none⟩) bs.length 1] w (GBA bs w):=by
 obtain⟨hl1,hrt⟩:=row_tail1 hrow hlen
 have hne:((bs.length:Int)==0)=false:=beq_false_of_ne (by omega)
 have hlti:(0:Int)<(bs.length:Int):=by omega
 have hcell:w.cell? ⟨g,o,none⟩=some (bv 16):=by
  obtain⟨p,cap',he,_,hc⟩:=hrow
  cases he
  obtain⟨g',o',h1,h2⟩:=hc 0 16 hd
  cases h1;exact h2
 have hgz:g<w.heap.size:=cell_ltE hcell
 have hbt:∀d∈bs.drop 1,d<256:=fun d hd=>_hb d (List.mem_of_mem_drop hd)
 have hlt:(bs.drop 1).length≤140737488355328:=by rw[List.length_drop];omega
 have hlt':(bs.drop 1).length≤bs.length:=by rw[List.length_drop];omega
 have H1:Hid (∀W,G w W→Calls prog 140 #[.slice (some ⟨g,o,none⟩) 0 0] W (TWA (bs.drop 1) W)):=fun W g=>tw_any _ _ W (hrt.G g) hbt hlt
 have HD:Hid _:=hd
 rw[hl1]
 clear hrow hrt hd _hb hbt hlt
 go_enter func103,ntmps103
 go_wp2_with fail
 refine(H1.out _ ((G.refl w).alloc _)).mono ?_
 rintro e w1 ⟨n,t,us,rfl,hn,_,htw,_,_,hb1⟩
 have hc1:∀o,w1.cell? {block:=w.heap.size,off:=o}=[I 0,I 0,I 0,.string E0][o]?:=G.cells hb1 (by simp) (by simp)
 have hf1:∀o,w1.frozen? {block:=w.heap.size,off:=o}=false:=G.frozens hb1 (by simp) (by simp)
 have HG:Hid (G w w1):=((G.refl w).alloc _).trans hb1
 have HP:Hid (GuessP bs 5 (n) 0 E0):=gid (by omega) HD.out htw
 clear hb1 H1
 go_wp2
 exact bodyPost_ret (v:=V 5 (n) 0 E0) (by simp[results,results103,go_sem,hc1]) rfl ⟨5,n,0,E0,rfl,hn,R0,by decide,HP.out,by repeat(first|exact G.refl _|assumption|exact HG.out|refine G.alloc ?_ _|refine G.drew ?_|refine G.setCell ?_ (by simp) _)⟩
theorem gb_17a(g o:Nat)(bs:List Nat)(w:World)(_hb:∀d∈bs,d<256)(_hl:bs.length≤140737488355328)(hlen:0<bs.length)(hrow:RowB w (.slice (some ⟨g,o,none⟩) bs.length 1) bs)(hd:bs[0]?=some 17):Calls prog 103 #[.slice (some ⟨g,o,none⟩) bs.length 1] w (GBA bs w):=by
 obtain⟨hl1,hrt⟩:=row_tail1 hrow hlen
 have hne:((bs.length:Int)==0)=false:=beq_false_of_ne (by omega)
 have hlti:(0:Int)<(bs.length:Int):=by omega
 have hcell:w.cell? ⟨g,o,none⟩=some (bv 17):=by
  obtain⟨p,cap',he,_,hc⟩:=hrow
  cases he
  obtain⟨g',o',h1,h2⟩:=hc 0 17 hd
  cases h1;exact h2
 have hgz:g<w.heap.size:=cell_ltE hcell
 have hbt:∀d∈bs.drop 1,d<256:=fun d hd=>_hb d (List.mem_of_mem_drop hd)
 have hlt:(bs.drop 1).length≤140737488355328:=by rw[List.length_drop];omega
 have hlt':(bs.drop 1).length≤bs.length:=by rw[List.length_drop];omega
 have H1:Hid (∀W,G w W→Calls prog 140 #[.slice (some ⟨g,o,none⟩) 0 0] W (TWA (bs.drop 1) W)):=fun W g=>tw_any _ _ W (hrt.G g) hbt hlt
 have HD:Hid _:=hd
 rw[hl1]
 clear hrow hrt hd _hb hbt hlt
 go_enter func103,ntmps103
 go_wp2_with fail
 refine(H1.out _ ((G.refl w).alloc _)).mono ?_
 rintro e w1 ⟨n,t,us,rfl,hn,_,htw,_,_,hb1⟩
 have hc1:∀o,w1.cell? {block:=w.heap.size,off:=o}=[I 0,I 0,I 0,.string E0][o]?:=G.cells hb1 (by simp) (by simp)
 have hf1:∀o,w1.frozen? {block:=w.heap.size,off:=o}=false:=G.frozens hb1 (by simp) (by simp)
 have HG:Hid (G w w1):=((G.refl w).alloc _).trans hb1
 have HP:Hid (GuessP bs 6 (n) 0 E0):=gid (by omega) HD.out htw
 clear hb1 H1
 go_wp2
 exact bodyPost_ret (v:=V 6 (n) 0 E0) (by simp[results,results103,go_sem,hc1]) rfl ⟨6,n,0,E0,rfl,hn,R0,by decide,HP.out,by repeat(first|exact G.refl _|assumption|exact HG.out|refine G.alloc ?_ _|refine G.drew ?_|refine G.setCell ?_ (by simp) _)⟩
theorem gb_48b(g o cap:Nat)(bs:List Nat)(w:World)(_hcap:bs.length≤cap)(_hb:∀d∈bs,d<256)(_hl:bs.length≤140737488355328)(hlen:0<bs.length)(hrow:RowB w (.slice (some ⟨g,o,none⟩) bs.length cap) bs)(hcp:¬cap=1)(hd:bs[0]?=some 48):Calls prog 103 #[.slice (some ⟨g,o,none⟩) bs.length cap] w (GBA bs w):=by
 have hrt:=row_tail hrow hlen hcp
 have hne:((bs.length:Int)==0)=false:=beq_false_of_ne (by omega)
 have hlti:(0:Int)<(bs.length:Int):=by omega
 have hcell:w.cell? ⟨g,o,none⟩=some (bv 48):=by
  obtain⟨p,cap',he,_,hc⟩:=hrow
  cases he
  obtain⟨g',o',h1,h2⟩:=hc 0 48 hd
  cases h1;exact h2
 have hgz:g<w.heap.size:=cell_ltE hcell
 have hbt:∀d∈bs.drop 1,d<256:=fun d hd=>_hb d (List.mem_of_mem_drop hd)
 have hlt:(bs.drop 1).length≤140737488355328:=by rw[List.length_drop];omega
 have hlt':(bs.drop 1).length≤bs.length:=by rw[List.length_drop];omega
 have H1:Hid (∀W,G w W→Calls prog 138 #[.slice (some ⟨g,o+1,none⟩) (bs.length-1) (cap-1)] W fun e w'=>e=.returned (V 1 (if (bs.drop 1)[0]?=some 1 then 1 else 0) 0 E0)∧G W w'):=fun W g=>gbo_any _ _ W (hrt.G g) hlt
 have HD:Hid _:=hd
 obtain⟨q,hq⟩:∃q:Int,q=if (bs.drop 1)[0]?=some 1 then 1 else 0:=⟨_,rfl⟩
 rw[←hq] at H1
 have HQ:Hid (GuessP bs 1 q 0 E0):=by rw[hq];exact g48 hd
 have hqr:R64 q:=by rw[hq];split<;>(unfold R64;omega)
 have HQR:Hid (R64 q):=hqr
 clear hq hqr
 clear hrow hrt hd _hb hbt hlt
 go_enter func103,ntmps103
 go_wp2_with fail
 refine(H1.out _ ((G.refl w).alloc _)).mono ?_
 rintro e w1 ⟨rfl,hb1⟩
 have hc1:∀o,w1.cell? {block:=w.heap.size,off:=o}=[I 0,I 0,I 0,.string E0][o]?:=G.cells hb1 (by simp) (by simp)
 have hf1:∀o,w1.frozen? {block:=w.heap.size,off:=o}=false:=G.frozens hb1 (by simp) (by simp)
 have HG:Hid (G w w1):=((G.refl w).alloc _).trans hb1
 have HP:Hid (GuessP bs 1 (q) 0 E0):=HQ.out
 clear hb1 H1
 go_wp2
 exact bodyPost_ret (v:=V 1 (q) 0 E0) (by simp[results,results103,go_sem,hc1]) rfl ⟨1,q,0,E0,rfl,HQR.out,R0,by decide,HP.out,by repeat(first|exact G.refl _|assumption|exact HG.out|refine G.alloc ?_ _|refine G.drew ?_|refine G.setCell ?_ (by simp) _)⟩
theorem gb_32b(g o cap:Nat)(bs:List Nat)(w:World)(_hcap:bs.length≤cap)(_hb:∀d∈bs,d<256)(_hl:bs.length≤140737488355328)(hlen:0<bs.length)(hrow:RowB w (.slice (some ⟨g,o,none⟩) bs.length cap) bs)(hcp:¬cap=1)(hd:bs[0]?=some 32):Calls prog 103 #[.slice (some ⟨g,o,none⟩) bs.length cap] w (GBA bs w):=by
 have hrt:=row_tail hrow hlen hcp
 have hne:((bs.length:Int)==0)=false:=beq_false_of_ne (by omega)
 have hlti:(0:Int)<(bs.length:Int):=by omega
 have hcell:w.cell? ⟨g,o,none⟩=some (bv 32):=by
  obtain⟨p,cap',he,_,hc⟩:=hrow
  cases he
  obtain⟨g',o',h1,h2⟩:=hc 0 32 hd
  cases h1;exact h2
 have hgz:g<w.heap.size:=cell_ltE hcell
 have hbt:∀d∈bs.drop 1,d<256:=fun d hd=>_hb d (List.mem_of_mem_drop hd)
 have hlt:(bs.drop 1).length≤140737488355328:=by rw[List.length_drop];omega
 have hlt':(bs.drop 1).length≤bs.length:=by rw[List.length_drop];omega
 have H1:Hid (∀W,G w W→Calls prog 139 #[.slice (some ⟨g,o+1,none⟩) (bs.length-1) (cap-1)] W fun e w'=>∃xs,e=.returned (.string (strN xs))∧xs.length≤32∧TSP (bs.drop 1) (strN xs)∧G W w'):=fun W g=>ts_any _ _ W (hrt.G g) hlt
 have HD:Hid _:=hd
 clear hrow hrt hd _hb hbt hlt
 go_enter func103,ntmps103
 go_wp2_with fail
 refine(H1.out _ ((G.refl w).alloc _)).mono ?_
 rintro e w1 ⟨xs,rfl,hx32,htp,hb1⟩
 have hc1:∀o,w1.cell? {block:=w.heap.size,off:=o}=[I 0,I 0,I 0,.string E0][o]?:=G.cells hb1 (by simp) (by simp)
 have hf1:∀o,w1.frozen? {block:=w.heap.size,off:=o}=false:=G.frozens hb1 (by simp) (by simp)
 have HG:Hid (G w w1):=((G.refl w).alloc _).trans hb1
 have HP:Hid (GuessP bs 4 (0) 0 (strN xs)):=g32 HD.out htp
 clear hb1 H1
 go_wp2
 exact bodyPost_ret (v:=V 4 (0) 0 (strN xs)) (by simp[results,results103,go_sem,hc1]) rfl ⟨4,0,0,(strN xs),rfl,R0,R0,by rw[strN_size];omega,HP.out,by repeat(first|exact G.refl _|assumption|exact HG.out|refine G.alloc ?_ _|refine G.drew ?_|refine G.setCell ?_ (by simp) _)⟩
theorem gb_16b(g o cap:Nat)(bs:List Nat)(w:World)(_hcap:bs.length≤cap)(_hb:∀d∈bs,d<256)(_hl:bs.length≤140737488355328)(hlen:0<bs.length)(hrow:RowB w (.slice (some ⟨g,o,none⟩) bs.length cap) bs)(hcp:¬cap=1)(hd:bs[0]?=some 16):Calls prog 103 #[.slice (some ⟨g,o,none⟩) bs.length cap] w (GBA bs w):=by
 have hrt:=row_tail hrow hlen hcp
 have hne:((bs.length:Int)==0)=false:=beq_false_of_ne (by omega)
 have hlti:(0:Int)<(bs.length:Int):=by omega
 have hcell:w.cell? ⟨g,o,none⟩=some (bv 16):=by
  obtain⟨p,cap',he,_,hc⟩:=hrow
  cases he
  obtain⟨g',o',h1,h2⟩:=hc 0 16 hd
  cases h1;exact h2
 have hgz:g<w.heap.size:=cell_ltE hcell
 have hbt:∀d∈bs.drop 1,d<256:=fun d hd=>_hb d (List.mem_of_mem_drop hd)
 have hlt:(bs.drop 1).length≤140737488355328:=by rw[List.length_drop];omega
 have hlt':(bs.drop 1).length≤bs.length:=by rw[List.length_drop];omega
 have H1:Hid (∀W,G w W→Calls prog 140 #[.slice (some ⟨g,o+1,none⟩) (bs.length-1) (cap-1)] W (TWA (bs.drop 1) W)):=fun W g=>tw_any _ _ W (hrt.G g) hbt hlt
 have HD:Hid _:=hd
 clear hrow hrt hd _hb hbt hlt
 go_enter func103,ntmps103
 go_wp2_with fail
 refine(H1.out _ ((G.refl w).alloc _)).mono ?_
 rintro e w1 ⟨n,t,us,rfl,hn,_,htw,_,_,hb1⟩
 have hc1:∀o,w1.cell? {block:=w.heap.size,off:=o}=[I 0,I 0,I 0,.string E0][o]?:=G.cells hb1 (by simp) (by simp)
 have hf1:∀o,w1.frozen? {block:=w.heap.size,off:=o}=false:=G.frozens hb1 (by simp) (by simp)
 have HG:Hid (G w w1):=((G.refl w).alloc _).trans hb1
 have HP:Hid (GuessP bs 5 (n) 0 E0):=gid (by omega) HD.out htw
 clear hb1 H1
 go_wp2
 exact bodyPost_ret (v:=V 5 (n) 0 E0) (by simp[results,results103,go_sem,hc1]) rfl ⟨5,n,0,E0,rfl,hn,R0,by decide,HP.out,by repeat(first|exact G.refl _|assumption|exact HG.out|refine G.alloc ?_ _|refine G.drew ?_|refine G.setCell ?_ (by simp) _)⟩
theorem gb_17b(g o cap:Nat)(bs:List Nat)(w:World)(_hcap:bs.length≤cap)(_hb:∀d∈bs,d<256)(_hl:bs.length≤140737488355328)(hlen:0<bs.length)(hrow:RowB w (.slice (some ⟨g,o,none⟩) bs.length cap) bs)(hcp:¬cap=1)(hd:bs[0]?=some 17):Calls prog 103 #[.slice (some ⟨g,o,none⟩) bs.length cap] w (GBA bs w):=by
 have hrt:=row_tail hrow hlen hcp
 have hne:((bs.length:Int)==0)=false:=beq_false_of_ne (by omega)
 have hlti:(0:Int)<(bs.length:Int):=by omega
 have hcell:w.cell? ⟨g,o,none⟩=some (bv 17):=by
  obtain⟨p,cap',he,_,hc⟩:=hrow
  cases he
  obtain⟨g',o',h1,h2⟩:=hc 0 17 hd
  cases h1;exact h2
 have hgz:g<w.heap.size:=cell_ltE hcell
 have hbt:∀d∈bs.drop 1,d<256:=fun d hd=>_hb d (List.mem_of_mem_drop hd)
 have hlt:(bs.drop 1).length≤140737488355328:=by rw[List.length_drop];omega
 have hlt':(bs.drop 1).length≤bs.length:=by rw[List.length_drop];omega
 have H1:Hid (∀W,G w W→Calls prog 140 #[.slice (some ⟨g,o+1,none⟩) (bs.length-1) (cap-1)] W (TWA (bs.drop 1) W)):=fun W g=>tw_any _ _ W (hrt.G g) hbt hlt
 have HD:Hid _:=hd
 clear hrow hrt hd _hb hbt hlt
 go_enter func103,ntmps103
 go_wp2_with fail
 refine(H1.out _ ((G.refl w).alloc _)).mono ?_
 rintro e w1 ⟨n,t,us,rfl,hn,_,htw,_,_,hb1⟩
 have hc1:∀o,w1.cell? {block:=w.heap.size,off:=o}=[I 0,I 0,I 0,.string E0][o]?:=G.cells hb1 (by simp) (by simp)
 have hf1:∀o,w1.frozen? {block:=w.heap.size,off:=o}=false:=G.frozens hb1 (by simp) (by simp)
 have HG:Hid (G w w1):=((G.refl w).alloc _).trans hb1
 have HP:Hid (GuessP bs 6 (n) 0 E0):=gid (by omega) HD.out htw
 clear hb1 H1
 go_wp2
 exact bodyPost_ret (v:=V 6 (n) 0 E0) (by simp[results,results103,go_sem,hc1]) rfl ⟨6,n,0,E0,rfl,hn,R0,by decide,HP.out,by repeat(first|exact G.refl _|assumption|exact HG.out|refine G.alloc ?_ _|refine G.drew ?_|refine G.setCell ?_ (by simp) _)⟩
theorem gb_num(g o cap:Nat)(bs:List Nat)(w:World)(_hcap:bs.length≤cap)(_hb:∀d∈bs,d<256)(_hl:bs.length≤140737488355328)(hlen:0<bs.length)(hrow:RowB w (.slice (some ⟨g,o,none⟩) bs.length cap) bs)(d:Nat)(hd:bs[0]?=some d)(hne':d≠80∧d≠48∧d≠32∧d≠16∧d≠17):Calls prog 103 #[.slice (some ⟨g,o,none⟩) bs.length cap] w (GBA bs w):=by
 have hne:((bs.length:Int)==0)=false:=beq_false_of_ne (by omega)
 have hlti:(0:Int)<(bs.length:Int):=by omega
 have hcell:w.cell? ⟨g,o,none⟩=some (bv d):=by
  obtain⟨p,cap',he,_,hc⟩:=hrow
  cases he
  obtain⟨g',o',h1,h2⟩:=hc 0 d hd
  cases h1;exact h2
 have hgz:g<w.heap.size:=cell_ltE hcell
 have n1:((d:Int)==80)=false:=by simp;omega
 have n2:((d:Int)==48)=false:=by simp;omega
 have n3:((d:Int)==32)=false:=by simp;omega
 have n4:((d:Int)==16)=false:=by simp;omega
 have n5:((d:Int)==17)=false:=by simp;omega
 have H1:Hid (∀W,G w W→Calls prog 141 #[.slice (some ⟨g,o,none⟩) bs.length cap] W (GNA bs W)):=fun W g=>gn_any _ _ W (hrow.G g) _hb _hl
 have HD:Hid _:=hd
 have HN:Hid _:=hne'
 clear hrow hd _hb hne'
 go_enter func103,ntmps103
 go_wp2_with fail
 refine(H1.out _ ((G.refl w).alloc _)).mono ?_
 rintro e w1 ⟨k,a,b,rfl,ha,hb2,hp,hb1⟩
 have hc1:∀o,w1.cell? {block:=w.heap.size,off:=o}=[I 0,I 0,I 0,.string E0][o]?:=G.cells hb1 (by simp) (by simp)
 have hf1:∀o,w1.frozen? {block:=w.heap.size,off:=o}=false:=G.frozens hb1 (by simp) (by simp)
 have HG:Hid (G w w1):=((G.refl w).alloc _).trans hb1
 have HP:Hid (GuessP bs k a b E0):=gnum HD.out HN.out hp
 clear hb1 H1 hp
 go_wp2
 exact bodyPost_ret (v:=V k a b E0) (by simp[results,results103,go_sem,hc1]) rfl ⟨k,a,b,E0,rfl,ha,hb2,by decide,HP.out,by repeat(first|exact G.refl _|assumption|exact HG.out|refine G.alloc ?_ _|refine G.drew ?_|refine G.setCell ?_ (by simp) _)⟩
theorem gb_any(x:Value)(bs:List Nat)(w:World)(hx:RowB w x bs)(hb:∀d∈bs,d<256)(hl:bs.length≤140737488355328):Calls prog 103 #[x] w (GBA bs w):=by
 have hrow:=hx
 obtain⟨p,cap,rfl,hcap,hc⟩:=hx
 by_cases h0:bs.length=0
 ·exact gb_nil p cap bs w h0
 obtain⟨d,hd⟩:∃d0,bs[0]?=some d0:=⟨_,List.getElem?_eq_getElem (by omega)⟩
 obtain⟨g,o,rfl,hcell⟩:=hc 0 d hd
 by_cases h80:d=80
 ·subst h80;exact gb_80 g o cap bs w hcap hb hl (by omega) hrow hd
 by_cases h48:d=48
 ·subst h48
  by_cases hcp:cap=1
  ·subst hcp;exact gb_48a g o bs w hb hl (by omega) hrow hd
  ·exact gb_48b g o cap bs w hcap hb hl (by omega) hrow hcp hd
 by_cases h32:d=32
 ·subst h32
  by_cases hcp:cap=1
  ·subst hcp;exact gb_32a g o bs w hb hl (by omega) hrow hd
  ·exact gb_32b g o cap bs w hcap hb hl (by omega) hrow hcp hd
 by_cases h16:d=16
 ·subst h16
  by_cases hcp:cap=1
  ·subst hcp;exact gb_16a g o bs w hb hl (by omega) hrow hd
  ·exact gb_16b g o cap bs w hcap hb hl (by omega) hrow hcp hd
 by_cases h17:d=17
 ·subst h17
  by_cases hcp:cap=1
  ·subst hcp;exact gb_17a g o bs w hb hl (by omega) hrow hd
  ·exact gb_17b g o cap bs w hcap hb hl (by omega) hrow hcp hd
 exact gb_num g o cap bs w hcap hb hl (by omega) hrow d hd ⟨h80,h48,h32,h16,h17⟩
end
section
open Go.RowKit Go.Shelf Go.PlainAid Go.Lib
def mstep(m:Int)(d:Nat):Int:=wrap64 (wrap64 (m*256)-d)
def macc(l:List Nat):Int:=l.foldl mstep 0
theorem macc_snoc(l:List Nat)(d:Nat):macc (l++[d])=mstep (macc l) d:=by
 unfold macc
 rw[List.foldl_append];rfl
theorem acc_ge(l:List Nat)(a:Nat):a≤l.foldl (fun m d=>m*256+d) a:=by
 induction l generalizing a with
 | nil=>exact Nat.le_refl _
 | cons d l ih=>
  have:=ih (a*256+d)
  rw[List.foldl_cons];omega
theorem macc_eq'(l:List Nat)(a:Nat)(h:l.foldl (fun m d=>m*256+d) a≤9223372036854775808):l.foldl mstep (-(a:Int)) = -((l.foldl (fun m d=>m*256+d) a:Nat):Int):=by
 induction l generalizing a with
 | nil=>rfl
 | cons d l ih=>
  rw[List.foldl_cons] at h
  have h1:=acc_ge l (a*256+d)
  have h2:mstep (-(a:Int)) d = -((a*256+d:Nat):Int):=by
   unfold mstep wrap64
   omega
  rw[List.foldl_cons,List.foldl_cons,h2]
  exact ih (a*256+d) h
theorem macc_eq(l:List Nat)(h:acc l≤9223372036854775808):macc l = -((acc l:Nat):Int):=macc_eq' l 0 h
theorem macc_r64(l:List Nat):R64 (macc l):=by
 rcases List.eq_nil_or_concat l with rfl|⟨q,d,rfl⟩
 ·unfold R64 macc;simp
 ·rw[List.concat_eq_append,macc_snoc]
  exact r64_wrap _
def NUP(bs:List Nat)(i:Nat)(n:Int)(j:Nat):Prop:=∀n0 rest,R64 n0→bs.drop i=encW n0++rest→n=n0∧j=i+(encW n0).length
def NUA(bs:List Nat)(i:Nat)(w:World)(e:Ending)(w':World):Prop:=∃(n:Int) (j:Nat),e=.returned (.tuple #[.int .i64 n,.int .i64 j])∧R64 n∧NUP bs i n j∧j≤i+256∧w'=w
theorem nu_out(p:Option Addr)(cap i:Nat)(bs:List Nat)(w:World)(_hl:bs.length≤140737488355328)(_hi:i≤140737488355328)(h:bs.length≤i):Calls prog 143 #[.slice p bs.length cap,.int .i64 i] w (NUA bs i w):=by
 have HP:Hid (NUP bs i 0 i):=fun n0 rest _ he=>by rw[List.drop_of_length_le h] at he;simp[encW] at he
 have hii:(bs.length:Int)≤(i:Int):=by omega
 go_enter func143,ntmps143
 go_wp2
 go_ret2
 exact⟨0,i,rfl,by unfold R64;omega,HP.out,by omega,rfl⟩
theorem nup_pos(bs:List Nat)(d0 L i k:Nat)(hd:bs[i]?=some d0)(hdL:(d0:Int)-64=(L:Int))(hk:k=min L (min 8 (bs.length-(i+1)))):NUP bs i (wrap64 (-(macc ((bs.drop (i+1)).take k)))) (i+1+L):=by
 intro n0 rest hr he
 have hd':(bs.drop i)[0]?=some d0:=by rw[List.getElem?_drop];exact hd
 obtain⟨h1,h2,h3⟩:=enc_split he
 have hl8:=low_len n0 hr.1 hr.2
 have hlen:=congrArg List.length he
 simp[encW] at hlen
 rw[hd'] at h1
 have h1:=Option.some.inj h1
 rw[List.drop_drop] at h2
 by_cases hn:n0<0
 ·rw[if_pos hn] at h1
  have:=enc_neg hn
  omega
 ·rw[if_neg hn] at h1
  have hLL:(lowB n0).length=L:=by omega
  have hkL:k=L:=by omega
  refine⟨?_,by simp[encW];omega⟩
  rw[hkL,←hLL,h2]
  have hf:(lowB n0).reverse=(lowB n0).reverse.map (flipB n0):=by
   conv=>lhs;rw[←List.map_id (lowB n0).reverse]
   exact List.map_congr_left fun x _=>by unfold flipB;rw[if_neg hn];rfl
  have hb:=low_back n0
  rw[hf,hb,macc_eq _ (by rw[acc_digs];have:=hr.2;omega),acc_digs]
  unfold wrap64
  have:=hr.2
  omega
theorem nu_pos(g o cap d0 L i:Nat)(bs:List Nat)(w:World)(hc:∀j d,bs[j]?=some d→w.cell? ⟨g,o+j,none⟩=some (bv d))(hb:∀d∈bs,d<256)(hl:bs.length≤140737488355328)
  (hd:bs[i]?=some d0) (hdL:(d0:Int)-64=(L:Int)):Calls prog 143 #[.slice (some ⟨g,o,none⟩) bs.length cap,.int .i64 i] w (NUA bs i w):=by
 have HT:Hid (∀k,k=min L (min 8 (bs.length-(i+1)))→NUP bs i (wrap64 (-(macc ((bs.drop (i+1)).take k)))) (i+1+L)):=fun k hk=>nup_pos bs d0 L i k hd hdL hk
 have hilt:i<bs.length:=(List.getElem?_eq_some_iff.1 hd).1
 have hcell:=hc i d0 hd
 have hd256:d0<256:=hb d0 (List.mem_of_getElem? hd)
 have HC:Hid _:=hc
 have HB256:Hid _:=hb
 have hili:(i:Int)<(bs.length:Int):=by omega
 have hL256:L<256:=by omega
 clear hc hb hd
 go_enter func143,ntmps143
 go_wp2
 go_loopw [8,9,10] (fun m k _ W=>∃j:Nat,j≤L∧j≤8∧j≤bs.length-(i+1)∧k=.int .i64 ((j:Int)+1)∧m=.int .i64 (macc ((bs.drop (i+1)).take j))∧W=w) (fun _ k _ _=>9-(RowKit.intOf k).toNat)
 case atStart=>exact⟨0,Nat.zero_le _,by omega,Nat.zero_le _,rfl,rfl,rfl⟩
 case round=>
  obtain⟨j,hj,hj8,hjl,rfl,rfl,rfl⟩:=hrel
  by_cases h1:j<L
  ·have h1i:(j:Int)+1≤L:=by omega
   by_cases h2:i+1+j<bs.length
   ·have h2i:(i:Int)+((j:Int)+1)<(bs.length:Int):=by omega
    by_cases h3:j<8
    ·have h3i:(j:Int)+1≤8:=by omega
     obtain⟨d,hdj⟩:∃d,bs[i+(j+1)]?=some d:=⟨_,List.getElem?_eq_getElem (by omega)⟩
     have hcj:=HC.out (i+(j+1)) d hdj
     have hd2:d<256:=HB256.out d (List.mem_of_getElem? hdj)
     have hsub:(bs.drop (i+1)).take (j+1)=(bs.drop (i+1)).take j++[d]:=by
      rw[List.take_add_one,List.getElem?_drop,show i+1+j=i+(j+1) by omega,hdj];rfl
     have hacc:macc ((bs.drop (i+1)).take (j+1))=mstep (macc ((bs.drop (i+1)).take j)) (d):=by rw[hsub,macc_snoc]
     have HA:Hid _:=hacc
     have hR:=macc_r64 ((bs.drop (i+1)).take j)
     clear hsub hacc hdj
     generalize macc ((bs.drop (i+1)).take j)=M at HA hR
     have HR:Hid _:=hR
     clear hR
     have hcast:(((d:Nat)):Int)=(d:Int):=by omega
     have HCa:Hid _:=hcast
     clear hcast
     go_wp2
     go_roundw
     case rel=>exact⟨j+1,by omega,by omega,by omega,by go_num,by rw[HA.out];unfold mstep;rw[HCa.out],trivial⟩
     case measure=>simp[RowKit.intOf];omega
    ·have h3i:¬(j:Int)+1≤8:=by omega
     have HJ:Hid (NUP bs i (wrap64 (-(macc ((bs.drop (i+1)).take j)))) (i+1+L)):=HT.out j (by omega)
     clear HT
     have HM:Hid _:=macc_r64 ((bs.drop (i+1)).take j)
     generalize macc ((bs.drop (i+1)).take j)=M at HJ HM
     go_wp2
     go_ret2
     exact⟨_,i+1+L,by simp,r64_wrap _,HJ.out,by omega,rfl⟩
   ·have h2i:¬(i:Int)+((j:Int)+1)<(bs.length:Int):=by omega
    have HJ:Hid (NUP bs i (wrap64 (-(macc ((bs.drop (i+1)).take j)))) (i+1+L)):=HT.out j (by omega)
    clear HT
    have HM:Hid _:=macc_r64 ((bs.drop (i+1)).take j)
    generalize macc ((bs.drop (i+1)).take j)=M at HJ HM
    go_wp2
    go_ret2
    exact⟨_,i+1+L,by simp,r64_wrap _,HJ.out,by omega,rfl⟩
  ·have h1i:¬(j:Int)+1≤L:=by omega
   have HJ:Hid (NUP bs i (wrap64 (-(macc ((bs.drop (i+1)).take j)))) (i+1+L)):=HT.out j (by omega)
   clear HT
   have HM:Hid _:=macc_r64 ((bs.drop (i+1)).take j)
   generalize macc ((bs.drop (i+1)).take j)=M at HJ HM
   go_wp2
   go_ret2
   exact⟨_,i+1+L,by simp,r64_wrap _,HJ.out,by omega,rfl⟩
theorem nup_neg(bs:List Nat)(d0 L i k:Nat)(hd:bs[i]?=some d0)(hdL:(d0:Int)-64 = -(L:Int))(hL1:1≤L)(hk:k=min L (min 8 (bs.length-(i+1)))):NUP bs i (macc (((bs.drop (i+1)).take k).map (255 - ·))) (i+1+L):=by
 intro n0 rest hr he
 have hd':(bs.drop i)[0]?=some d0:=by rw[List.getElem?_drop];exact hd
 obtain⟨h1,h2,h3⟩:=enc_split he
 have hl8:=low_len n0 hr.1 hr.2
 have hlen:=congrArg List.length he
 simp[encW] at hlen
 rw[hd'] at h1
 have h1:=Option.some.inj h1
 rw[List.drop_drop] at h2
 by_cases hn:n0<0
 ·rw[if_pos hn] at h1
  have hLL:(lowB n0).length=L:=by omega
  have hkL:k=L:=by omega
  refine⟨?_,by simp[encW];omega⟩
  rw[hkL,←hLL,h2]
  have hf:(lowB n0).reverse.map (255 - ·)=(lowB n0).reverse.map (flipB n0):=List.map_congr_left fun x _=>by unfold flipB;rw[if_pos hn]
  have hb:=low_back n0
  rw[hf,hb,macc_eq _ (by rw[acc_digs];have:=hr.1;omega),acc_digs]
  omega
 ·rw[if_neg hn] at h1
  omega
theorem nu_neg(g o cap d0 L i:Nat)(bs:List Nat)(w:World)(hc:∀j d,bs[j]?=some d→w.cell? ⟨g,o+j,none⟩=some (bv d))(hb:∀d∈bs,d<256)(hl:bs.length≤140737488355328)
  (hd:bs[i]?=some d0) (hdL:(d0:Int)-64 = -(L:Int)) (hL1:1≤L):Calls prog 143 #[.slice (some ⟨g,o,none⟩) bs.length cap,.int .i64 i] w (NUA bs i w):=by
 have HT:Hid (∀k,k=min L (min 8 (bs.length-(i+1)))→NUP bs i (macc (((bs.drop (i+1)).take k).map (255 - ·))) (i+1+L)):=fun k hk=>nup_neg bs d0 L i k hd hdL hL1 hk
 have hilt:i<bs.length:=(List.getElem?_eq_some_iff.1 hd).1
 have hcell:=hc i d0 hd
 have hd256:d0<256:=hb d0 (List.mem_of_getElem? hd)
 have HC:Hid _:=hc
 have HB256:Hid _:=hb
 have hili:(i:Int)<(bs.length:Int):=by omega
 have hL256:L<256:=by omega
 clear hc hb hd
 go_enter func143,ntmps143
 go_wp2
 go_loopw [8,9,10] (fun m k _ W=>∃j:Nat,j≤L∧j≤8∧j≤bs.length-(i+1)∧k=.int .i64 ((j:Int)+1)∧m=.int .i64 (macc (((bs.drop (i+1)).take j).map (255 - ·)))∧W=w) (fun _ k _ _=>9-(RowKit.intOf k).toNat)
 case atStart=>exact⟨0,Nat.zero_le _,by omega,Nat.zero_le _,rfl,rfl,rfl⟩
 case round=>
  obtain⟨j,hj,hj8,hjl,rfl,rfl,rfl⟩:=hrel
  by_cases h1:j<L
  ·have h1i:(j:Int)+1≤L:=by omega
   by_cases h2:i+1+j<bs.length
   ·have h2i:(i:Int)+((j:Int)+1)<(bs.length:Int):=by omega
    by_cases h3:j<8
    ·have h3i:(j:Int)+1≤8:=by omega
     obtain⟨d,hdj⟩:∃d,bs[i+(j+1)]?=some d:=⟨_,List.getElem?_eq_getElem (by omega)⟩
     have hcj:=HC.out (i+(j+1)) d hdj
     have hd2:d<256:=HB256.out d (List.mem_of_getElem? hdj)
     have hsub:(bs.drop (i+1)).take (j+1)=(bs.drop (i+1)).take j++[d]:=by
      rw[List.take_add_one,List.getElem?_drop,show i+1+j=i+(j+1) by omega,hdj];rfl
     have hacc:macc (((bs.drop (i+1)).take (j+1)).map (255 - ·))=mstep (macc (((bs.drop (i+1)).take j).map (255 - ·))) (255-d):=by rw[hsub,List.map_append,List.map_singleton,macc_snoc]
     have HA:Hid _:=hacc
     have hR:=macc_r64 (((bs.drop (i+1)).take j).map (255 - ·))
     clear hsub hacc hdj
     generalize macc (((bs.drop (i+1)).take j).map (255 - ·))=M at HA hR
     have HR:Hid _:=hR
     clear hR
     have hcast:(((255-d:Nat)):Int)=255-(d:Int):=by omega
     have HCa:Hid _:=hcast
     clear hcast
     go_wp2
     go_roundw
     case rel=>exact⟨j+1,by omega,by omega,by omega,by go_num,by rw[HA.out];unfold mstep;rw[HCa.out],trivial⟩
     case measure=>simp[RowKit.intOf];omega
    ·have h3i:¬(j:Int)+1≤8:=by omega
     have HJ:Hid (NUP bs i (macc (((bs.drop (i+1)).take j).map (255 - ·))) (i+1+L)):=HT.out j (by omega)
     clear HT
     have HM:Hid _:=macc_r64 (((bs.drop (i+1)).take j).map (255 - ·))
     generalize macc (((bs.drop (i+1)).take j).map (255 - ·))=M at HJ HM
     go_wp2
     go_ret2
     exact⟨_,i+1+L,by simp,HM.out,HJ.out,by omega,rfl⟩
   ·have h2i:¬(i:Int)+((j:Int)+1)<(bs.length:Int):=by omega
    have HJ:Hid (NUP bs i (macc (((bs.drop (i+1)).take j).map (255 - ·))) (i+1+L)):=HT.out j (by omega)
    clear HT
    have HM:Hid _:=macc_r64 (((bs.drop (i+1)).take j).map (255 - ·))
    generalize macc (((bs.drop (i+1)).take j).map (255 - ·))=M at HJ HM
    go_wp2
    go_ret2
    exact⟨_,i+1+L,by simp,HM.out,HJ.out,by omega,rfl⟩
  ·have h1i:¬(j:Int)+1≤L:=by omega
   have HJ:Hid (NUP bs i (macc (((bs.drop (i+1)).take j).map (255 - ·))) (i+1+L)):=HT.out j (by omega)
   clear HT
   have HM:Hid _:=macc_r64 (((bs.drop (i+1)).take j).map (255 - ·))
   generalize macc (((bs.drop (i+1)).take j).map (255 - ·))=M at HJ HM
   go_wp2
   go_ret2
   exact⟨_,i+1+L,by simp,HM.out,HJ.out,by omega,rfl⟩
theorem nu_any(x:Value)(bs:List Nat)(i:Nat)(w:World)(hx:RowB w x bs)(hb:∀d∈bs,d<256)(hl:bs.length≤140737488355328)(hi:i≤140737488355328):Calls prog 143 #[x,.int .i64 i] w (NUA bs i w):=by
 obtain⟨p,cap,rfl,hcap,hc⟩:=hx
 by_cases h:bs.length≤i
 ·exact nu_out p cap i bs w hl hi h
 obtain⟨d0,hd⟩:∃d0,bs[i]?=some d0:=⟨_,List.getElem?_eq_getElem (by omega)⟩
 obtain⟨g,o,rfl,_⟩:=hc i d0 hd
 have hc':∀i d,bs[i]?=some d→w.cell? ⟨g,o+i,none⟩=some (bv d):=fun i d hi=>by
  obtain⟨g',o',he,h2⟩:=hc i d hi
  cases he;exact h2
 by_cases hs:d0<64
 ·exact nu_neg g o cap d0 (64-d0) i bs w hc' hb hl hd (by omega) (by omega)
 ·exact nu_pos g o cap d0 (d0-64) i bs w hc' hb hl hd (by omega)
end
end Go.Proofs.YthmdjhfbhbheeaaGreatDoor
