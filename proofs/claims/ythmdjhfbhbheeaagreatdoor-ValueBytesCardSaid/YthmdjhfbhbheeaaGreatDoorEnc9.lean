import Derived.Test.YthmdjhfbhbheeaaGreatDoorDec7
import Derived.Test.YthmdjhfbhbheeaaGreatDoorShelf4
namespace Go.Proofs.YthmdjhfbhbheeaaGreatDoor
open Go.Proofs.Tryz
set_option maxHeartbeats 8000000
set_option maxRecDepth 100000
section
open Go.RowKit Go.Shelf Go.PlainAid Go.Lib
theorem zUH(a b:Nat)(ha:a<256)(hb:b<256):(UInt8.ofNat a==UInt8.ofNat b)=(a==b):=by
 by_cases h:a=b
 ·subst h;simp
 ·have h1:(a==b)=false:=beq_false_of_ne h
  rw[h1];refine beq_false_of_ne fun he=>h ?_;have:=congrArg UInt8.toNat he;simp at this;omega
theorem zTb(ys bs:List Nat)(hy:∀d∈ys,d<256)(hb:∀d∈bs,d<256) :
  Lib.hasPrefix (bytesOf (bs.map fun d:Nat=>(d:Int))) (bytesOf (ys.map fun d:Nat=>(d:Int)))=ys.isPrefixOf bs:=by
 unfold Lib.hasPrefix
 induction ys generalizing bs with
 | nil=>simp[bytesOf]
 | cons y ys ih=>
  cases bs with
  | nil=>simp[bytesOf]
  | cons b bs=>
   have h1:=ih bs (fun d hd=>hy d (by simp[hd])) (fun d hd=>hb d (by simp[hd]));have h2:=zUH y b (hy y (by simp)) (hb b (by simp));simp only[bytesOf,List.map_cons,List.isPrefixOf,Int.toNat_natCast] at h1⊢;rw[h1,h2]
theorem zQ2{w:World}{p:Option Addr}{n cap:Nat}{xs:List Nat}(h:RowB w (.slice p n cap) xs):n=xs.length∧Lib.BytesIn w p n (xs.map fun d:Nat=>(d:Int)):=by
 obtain⟨p',cap',he,hcap,hc⟩:=h;cases he;refine⟨rfl,fun hn=>?_⟩;obtain⟨d,hd⟩:∃d,xs[0]?=some d:=⟨_,List.getElem?_eq_getElem hn⟩;obtain⟨g,o,rfl,_⟩:=hc 0 d hd;refine⟨g,o,rfl,fun i hi=>?_⟩;obtain⟨e,he⟩:∃e,xs[i]?=some e:=⟨_,List.getElem?_eq_getElem hi⟩;obtain⟨g',o',h1,h2⟩:=hc i e he;cases h1;rw[h2,List.getD,List.getElem?_map,he];rfl
theorem zTM(x y:Value)(bs ys:List Nat)(w:World)(hx:RowB w x bs)(hy:RowB w y ys)(hb:∀d∈bs,d<256)(hyb:∀d∈ys,d<256):Calls prog 104 #[x,y] w fun e w'=>e=.returned (.bool (ys.isPrefixOf bs))∧w'=w:=by
 obtain⟨p,cap,rfl,hcap,hc⟩:=hx;obtain⟨p2,cap2,rfl,hcap2,hc2⟩:=hy;have h1:=(zQ2 ⟨p,cap,rfl,hcap,hc⟩:_∧Lib.BytesIn w p bs.length _).2;have h2:=(zQ2 ⟨p2,cap2,rfl,hcap2,hc2⟩:_∧Lib.BytesIn w p2 ys.length _).2;have:=Any.bytes_HasPrefix_all Tryz.laysBytesPrefix p p2 bs.length cap ys.length cap2 _ _ w (by simp) (by simp) hcap h1 h2;rw[zTb ys bs hyb hb] at this;exact this
theorem zNE(n:Int)(h1:-9223372036854775808≤n)(h2:n≤9223372036854775807):∀d∈encW n,d<256:=by
 have hl:=zDh n h1 h2;intro d hd;unfold encW at hd
 rcases List.mem_cons.1 hd with rfl|hd
 ·split<;>omega
 ·rw[List.mem_reverse,zMM] at hd
  obtain⟨x,hx,rfl⟩:=List.mem_map.1 hd;have:=zNI _ x hx;unfold zBn;split<;>omega
theorem zRX(s:ByteArray)(m:Nat):∀d∈strB s m,d<256:=by
 induction m with
 | zero=>simp[strB,encS]
 | succ m ih=>
  intro d hd;have h1:=bt_le s m;have h0:=bt_nonneg s m
  by_cases hz:bt s m=0
  ·rw[zBL s m hz] at hd
   rcases List.mem_append.1 hd with hd|hd
   ·exact ih d hd
   ·simp at hd;omega
  ·rw[zBk s m hz] at hd
   rcases List.mem_append.1 hd with hd|hd
   ·exact ih d hd
   ·simp at hd;omega
theorem zRn(k a b:Int)(s:ByteArray)(h:okV k a b s=true)(ha:R64 a)(hb:R64 b):∀d∈encV k a b s,d<256:=by
 have hA:=zNE a ha.1 ha.2;have hB:=zNE b hb.1 hb.2;have hS:=zRX s s.size
 rcases zGG h with rfl|rfl|rfl|rfl|rfl|rfl|rfl<;>intro d hd
 ·have:d∈[80]:=hd
  simp at this;omega
 ·have:d∈[48,a.toNat]:=hd
  have ha':a=0∨a=1:=by simp[okV,Bool.and_eq_true] at h;exact h.1.1
  simp at this;omega
 ·have:d∈encW a++[0]:=hd
  rcases List.mem_append.1 this with h1|h1
  ·exact hA d h1
  ·simp at h1;omega
 ·have:d∈(encW a++[1])++encW b:=hd
  rcases List.mem_append.1 this with h1|h1
  ·rcases List.mem_append.1 h1 with h1|h1
   ·exact hA d h1
   ·simp at h1;omega
  ·exact hB d h1
 ·have:d∈(32::strB s s.size)++[0,0]:=hd
  rcases List.mem_append.1 this with h1|h1
  ·rcases List.mem_cons.1 h1 with h1|h1
   ·omega
   ·exact hS d h1
  ·simp at h1;omega
 ·have:d∈16::encW a:=hd
  rcases List.mem_cons.1 this with h1|h1
  ·omega
  ·exact hA d h1
 ·have:d∈17::encW a:=hd
  rcases List.mem_cons.1 this with h1|h1
  ·omega
  ·exact hA d h1
def DAns(bs:List Nat)(k a b:Int)(s:ByteArray)(n c:Int):Prop:=
 (okV k a b s=true∧R64 a∧R64 b∧(∃rest,bs=encV k a b s++rest)∧zAu bs k a b s∧n=((encV k a b s).length:Int)∧c=0)
 ∨ ((∀k0 a0 b0 s0 rest,okV k0 a0 b0 s0=true→R64 a0→R64 b0→bs≠encV k0 a0 b0 s0++rest)∧k=0∧a=0∧b=0∧s=E0∧n=0∧c=15)
theorem DAns.one{bs:List Nat}{k a b n c k' a' b' n' c':Int}{s s':ByteArray}(h:DAns bs k a b s n c)(h':DAns bs k' a' b' s' n' c'):k=k'∧a=a'∧b=b'∧s=s'∧n=n'∧c=c':=by
 rcases h with ⟨h1,h2,h3,⟨r,h4⟩,h5,rfl,rfl⟩|⟨h1,rfl,rfl,rfl,rfl,rfl,rfl⟩
 ·rcases h' with ⟨g1,g2,g3,⟨q,g4⟩,g5,rfl,rfl⟩|⟨g1,_⟩
  ·obtain⟨rfl,rfl,rfl,rfl⟩:=h5 _ _ _ _ q g1 g2 g3 g4
   exact⟨rfl,rfl,rfl,rfl,rfl,rfl⟩
  ·exact absurd h4 (g1 _ _ _ _ r h1 h2 h3)
 ·rcases h' with ⟨g1,g2,g3,⟨q,g4⟩,_⟩|⟨_,rfl,rfl,rfl,rfl,rfl,rfl⟩
  ·exact absurd g4 (h1 _ _ _ _ q g1 g2 g3)
  ·exact⟨rfl,rfl,rfl,rfl,rfl,rfl⟩
theorem zJu{bs:List Nat}{k a b:Int}{s:ByteArray}(h1:okV k a b s=true)(h2:R64 a)(h3:R64 b)(h:zAu bs k a b s)(hp:(encV k a b s).isPrefixOf bs=true):DAns bs k a b s ((encV k a b s).length:Int) 0:=by
 obtain⟨r,hr⟩:=List.isPrefixOf_iff_prefix.1 hp;exact .inl ⟨h1,h2,h3,⟨r,hr.symm⟩,h,rfl,rfl⟩
theorem zEQ{bs:List Nat}{k a b:Int}{s:ByteArray}(h:zAu bs k a b s)(hn:okV k a b s=false∨(encV k a b s).isPrefixOf bs=false):DAns bs 0 0 0 E0 0 15:=by
 refine .inr ⟨fun k0 a0 b0 s0 rest g1 g2 g3 g4=>?_,rfl,rfl,rfl,rfl,rfl,rfl⟩;obtain⟨rfl,rfl,rfl,rfl⟩:=h k0 a0 b0 s0 rest g1 g2 g3 g4
 rcases hn with hn|hn
 ·rw[hn] at g1;cases g1
 ·have:(encV k a b s).isPrefixOf bs=true:=List.isPrefixOf_iff_prefix.2 ⟨rest,g4.symm⟩
  rw[this] at hn;cases hn
def DecA(bs:List Nat)(w:World)(e:Ending)(w':World):Prop:=∃(k a b:Int) (s:ByteArray) (n c:Int),e=.returned (.tuple #[V k a b s,.int .i64 n,.int .i64 c])∧DAns bs k a b s n c∧G w w'
theorem zJt(x:Value)(bs:List Nat)(w:World)(hT:Tabs w)(hx:RowB w x bs)(hb:∀d∈bs,d<256)(hl:bs.length≤140737488355328):Calls prog 59 #[x] w (DecA bs w):=by
 have H1:Hid (∀W,G w W→Calls prog 103 #[x] W (GBA bs W)):=fun W g=>zWr x bs W (hx.G g) hb hl;have HX:Hid (RowB w x bs):=hx;have HB:Hid _:=hb;clear hb hx
 go_enter func59,ntmps59
 go_wp2_with fail
 refine(H1.out _ ((G.refl w).alloc _)).mono ?_;rintro e w1 ⟨k,a,b,s,rfl,ha,hb',hs,hp,hb1⟩;have hc1:∀o,w1.cell? {block:=w.heap.size,off:=o}=[I 0,I 0,I 0,.string E0][o]?:=G.cells hb1 (by simp) (by simp);have hf1:∀o,w1.frozen? {block:=w.heap.size,off:=o}=false:=G.frozens hb1 (by simp) (by simp)
 have hz1:w.heap.size<w1.heap.size:=by have:=hb1.size;simp at this;omega
 have hG1:G w w1:=((G.refl w).alloc _).trans hb1;have HG1:Hid (G w w1):=hG1;have HP:Hid (zAu bs k a b s):=hp;have HI:Hid (∀w,Tabs w→CG 25 #[V k a b s] w (.tuple #[zAb k a b s,.bool (okV k a b s)])):=zAi k a b s;clear hb1 H1 hp hG1;cases hok:okV k a b s
 ·have HN:Hid (DAns bs 0 0 0 E0 0 15):=zEQ HP.out (.inl hok)
  rw[hok] at HI;generalize zAb k a b s=y at HI;clear hok
  go_wp2_with fail
  refine(HI.out _ (hT.G (HG1.out.alloc _))).mono ?_;rintro e w2 ⟨rfl,hb2⟩;have g2:G w1 w2:=((G.refl w1).alloc _).trans hb2;have hc2:∀o,w2.cell? {block:=w.heap.size,off:=o}=[I 0,I 0,I 0,.string E0][o]?:=G.cells g2 hc1 hz1;have hf2:∀o,w2.frozen? {block:=w.heap.size,off:=o}=false:=G.frozens g2 hf1 hz1;have HG:Hid (G w w2):=HG1.out.trans g2;clear g2 hb2 HI
  go_wp2
  exact bodyPost_ret (v:=.tuple #[V0,.int .i64 0,.int .i64 15]) (by simp[results,results59,go_sem,hc2]) rfl ⟨0,0,0,E0,0,15,rfl,HN.out,by repeat(first|exact G.refl _|assumption|exact HG.out|refine G.alloc ?_ _|refine G.drew ?_|refine G.setCell ?_ (by simp) _)⟩
 ·have hic:=zDv k a b s hok ha
  rw[hok] at HI;have HL:Hid _:=zRn k a b s hok ha hb';generalize hys:encV k a b s=ys at hic HL;obtain⟨t,f,v,hit,hm,hf,gg⟩:=hic;rw[hit] at HI;have HC:Hid _:=gg;clear gg hit
  go_wp2_with fail
  refine(HI.out _ (hT.G (HG1.out.alloc _))).mono ?_;rintro e w2 ⟨rfl,hb2⟩;have g2:G w1 w2:=((G.refl w1).alloc _).trans hb2;have hc5:∀o,w2.cell? {block:=w1.heap.size,off:=o}=[I k,I a,I b,.string s][o]?:=G.cells hb2 (by simp) (by simp)
  have hz5:w1.heap.size<w2.heap.size:=by have:=hb2.size;simp at this;omega
  have hc2:∀o,w2.cell? {block:=w.heap.size,off:=o}=[I 0,I 0,I 0,.string E0][o]?:=G.cells g2 hc1 hz1;have hf2:∀o,w2.frozen? {block:=w.heap.size,off:=o}=false:=G.frozens g2 hf1 hz1;have HG2:Hid (G w w2):=HG1.out.trans g2;clear g2 hb2 HI
  go_wp2_with fail
  refine(HC.out _).mono ?_;rintro e w3 ⟨x3,rfl,hB3⟩;have hc3:∀o,w3.cell? {block:=w.heap.size,off:=o}=[I 0,I 0,I 0,.string E0][o]?:=G.cells hB3.g hc2 (by omega);have hf3:∀o,w3.frozen? {block:=w.heap.size,off:=o}=false:=G.frozens hB3.g hf2 (by omega);have hc6:∀o,w3.cell? {block:=w1.heap.size,off:=o}=[I k,I a,I b,.string s][o]?:=G.cells hB3.g hc5 hz5;have hz3:w2.heap.size≤w3.heap.size:=hB3.g.size;have HG:Hid (G w w3):=HG2.out.trans hB3.g;have HH:Hid _:=zTM x x3 bs ys w3 (HX.out.G (HG2.out.trans hB3.g)) hB3.row HB.out HL.out;obtain⟨p3,c3,e3,_,_⟩:=hB3.row;subst e3;clear hB3 HC hc1 hf1 hc2 hf2 hc5;cases hpf:ys.isPrefixOf bs
  ·have HN:Hid (DAns bs 0 0 0 E0 0 15):=zEQ HP.out (.inr (by rw[hys];exact hpf))
   rw[hpf] at HH;clear hpf hys
   go_wp2_with fail
   refine Calls.mono HH.out ?_;rintro e w4 ⟨rfl,rfl⟩
   go_wp2
   exact bodyPost_ret (v:=.tuple #[V0,.int .i64 0,.int .i64 15]) (by simp[results,results59,go_sem,hc3]) rfl ⟨0,0,0,E0,0,15,rfl,HN.out,by repeat(first|exact G.refl _|assumption|exact HG.out|refine G.alloc ?_ _|refine G.drew ?_|refine G.setCell ?_ (by simp) _)⟩
  ·have HN:Hid (DAns bs k a b s (ys.length:Int) 0):=by
    have:=zJu hok ha hb' HP.out (by rw[hys];exact hpf)
    rwa [hys] at this
   rw[hpf] at HH;clear hpf hys
   go_wp2_with fail
   refine Calls.mono HH.out ?_;rintro e w4 ⟨rfl,rfl⟩
   go_wp2
   exact bodyPost_ret (v:=.tuple #[V k a b s,.int .i64 (ys.length:Int),.int .i64 0]) (by simp[results,results59,go_sem,hc3]) rfl ⟨k,a,b,s,_,0,rfl,HN.out,by repeat(first|exact G.refl _|assumption|exact HG.out|refine G.alloc ?_ _|refine G.drew ?_|refine G.setCell ?_ (by simp) _)⟩
end
section
open Go.RowKit Go.Shelf Go.PlainAid Go.Lib
theorem zL3(k a b:Int)(s:ByteArray)(hs:s.size≤4611686018427387904)(h:okV k a b s=false)(w:World):CG 9 #[V k a b s] w (.tuple #[.slice none 0 0,.int .i64 16]):=by
 have HV:Hid (∀w,CG 26 #[V k a b s] w (.bool (okV k a b s))):=zAm k a b s hs;rw[h] at HV;clear h
 go_enter func9,ntmps9
 go_wp2_with fail
 refine(HV.out _).mono ?_;rintro e w1 ⟨rfl,hb1⟩;have hc1:∀o,w1.cell? {block:=w.heap.size,off:=o}=[I k,I a,I b,.string s][o]?:=G.cells hb1 (by simp) (by simp)
 have hz1':w.heap.size<w1.heap.size:=by have:=hb1.size;simp at this;omega
 have hG1:G w w1:=((G.refl w).alloc _).trans hb1;have HG:Hid _:=hG1;clear hb1 HV hG1
 go_wp2
 go_ret2
 exact⟨rfl,HG.out⟩
theorem zXu(a b:Int)(s:ByteArray)(hs:s.size≤4611686018427387904)(h:okV 0 a b s=true)(w:World):Calls prog 9 #[V 0 a b s] w fun e w'=>∃x',e=.returned (.tuple #[x',.int .i64 0])∧Bw w w' x' ([80]):=by
 have HV:Hid (∀w,CG 26 #[V 0 a b s] w (.bool (okV 0 a b s))):=zAm 0 a b s hs;rw[h] at HV;clear h
 go_enter func9,ntmps9
 go_wp2_with fail
 refine(HV.out _).mono ?_;rintro e w1 ⟨rfl,hb1⟩;have hc1:∀o,w1.cell? {block:=w.heap.size,off:=o}=[I 0,I a,I b,.string s][o]?:=G.cells hb1 (by simp) (by simp)
 have hz1':w.heap.size<w1.heap.size:=by have:=hb1.size;simp at this;omega
 have hG1:G w w1:=((G.refl w).alloc _).trans hb1;have HG:Hid _:=hG1;clear hb1 HV hG1
 go_wp2
 go_ret2
 exact⟨_,rfl,by simpa using Bw.fresh HG.out [80] #[.int .u8 80] rfl (by decide)⟩
theorem zSn(b:Int)(s:ByteArray)(hs:s.size≤4611686018427387904)(h:okV 1 0 b s=true)(w:World):Calls prog 9 #[V 1 0 b s] w fun e w'=>∃x',e=.returned (.tuple #[x',.int .i64 0])∧Bw w w' x' ([48,0]):=by
 have HV:Hid (∀w,CG 26 #[V 1 0 b s] w (.bool (okV 1 0 b s))):=zAm 1 0 b s hs;rw[h] at HV;clear h
 go_enter func9,ntmps9
 go_wp2_with fail
 refine(HV.out _).mono ?_;rintro e w1 ⟨rfl,hb1⟩;have hc1:∀o,w1.cell? {block:=w.heap.size,off:=o}=[I 1,I 0,I b,.string s][o]?:=G.cells hb1 (by simp) (by simp)
 have hz1':w.heap.size<w1.heap.size:=by have:=hb1.size;simp at this;omega
 have hG1:G w w1:=((G.refl w).alloc _).trans hb1;have HG:Hid _:=hG1;clear hb1 HV hG1
 go_wp2
 go_ret2
 exact⟨_,rfl,by simpa using Bw.fresh HG.out [48,0] #[.int .u8 48,.int .u8 0] rfl (by decide)⟩
theorem zSm(b:Int)(s:ByteArray)(hs:s.size≤4611686018427387904)(h:okV 1 1 b s=true)(w:World):Calls prog 9 #[V 1 1 b s] w fun e w'=>∃x',e=.returned (.tuple #[x',.int .i64 0])∧Bw w w' x' ([48,1]):=by
 have HV:Hid (∀w,CG 26 #[V 1 1 b s] w (.bool (okV 1 1 b s))):=zAm 1 1 b s hs;rw[h] at HV;clear h
 go_enter func9,ntmps9
 go_wp2_with fail
 refine(HV.out _).mono ?_;rintro e w1 ⟨rfl,hb1⟩;have hc1:∀o,w1.cell? {block:=w.heap.size,off:=o}=[I 1,I 1,I b,.string s][o]?:=G.cells hb1 (by simp) (by simp)
 have hz1':w.heap.size<w1.heap.size:=by have:=hb1.size;simp at this;omega
 have hG1:G w w1:=((G.refl w).alloc _).trans hb1;have HG:Hid _:=hG1;clear hb1 HV hG1
 go_wp2
 go_ret2
 exact⟨_,rfl,by simpa using Bw.fresh HG.out [48,1] #[.int .u8 48,.int .u8 1] rfl (by decide)⟩
theorem zXt(a b:Int)(s:ByteArray)(h1:-9223372036854775808≤a)(h2:a≤9223372036854775807)(hs:s.size≤4611686018427387904)(h:okV 2 a b s=true)(w:World):Calls prog 9 #[V 2 a b s] w fun e w'=>∃x',e=.returned (.tuple #[x',.int .i64 0])∧Bw w w' x' (encW a++[0]):=by
 obtain⟨i0,hi,hz0,hz1,hz2⟩:=info_parts zAW;have hl:=zBF a h1 h2;have HA:Hid _:=zFS a h1 h2;clear h1 h2;have HV:Hid (∀w,CG 26 #[V 2 a b s] w (.bool (okV 2 a b s))):=zAm 2 a b s hs;rw[h] at HV;clear h
 go_enter func9,ntmps9
 go_wp2_with fail
 refine(HV.out _).mono ?_;rintro e w1 ⟨rfl,hb1⟩;have hc1:∀o,w1.cell? {block:=w.heap.size,off:=o}=[I 2,I a,I b,.string s][o]?:=G.cells hb1 (by simp) (by simp)
 have hz1':w.heap.size<w1.heap.size:=by have:=hb1.size;simp at this;omega
 have hG1:G w w1:=((G.refl w).alloc _).trans hb1;have HG:Hid _:=hG1;clear hb1 HV hG1
 go_wp2_with fail
 refine(HA.out _).mono ?_;rintro e w2 ⟨x2,rfl,hB⟩;have HB:Hid (Bw w w2 x2 (encW a)):=hB.down HG.out;have hs2:=HB.out.g.size;clear hB
 go_wp2_with (at_builtin;refine wpList_append_own _ rfl _ _ 33 rfl w.heap.size 5 i0 (.int .u8 0) 1 1 underlying33 hi hz0 hz1 hz2 rfl (by decide) _ _ _ rfl (World.ownsRow.alloc HB.out.own _) ⟨w2.heap.size,0,none⟩ 1 1 [bv 0] rfl ?c0 ?c1 ?c2 ?c3 ?c4 ?c5 ?_)
 case c0=>rfl
 case c1=>
  intro j u hj
  match j,hj with
  | 0,hj=>simp at hj;subst hj;simp[Addr.add]
 case c2=>first|rfl|(intro u hu;simp at hu;subst hu;rfl)
 case c3=>unfold maxLen;(first|omega|(simp;omega))
 case c4=>(first|omega|(simp;omega))
 case c5=>(first|omega|(simp;omega))
 intro x3 w3 hown hgrow _;have HB3:Hid (Bw w w3 x3 (encW a++[0])):=(HB.out.keep ((G.refl _).alloc _)).app [0] 1 rfl hown hgrow;clear hown hgrow HB
 go_wp2
 go_ret2
 exact⟨_,rfl,HB3.out⟩
theorem zXq(a b:Int)(s:ByteArray)(h1:-9223372036854775808≤a)(h2:a≤9223372036854775807)(hs:s.size≤4611686018427387904)(h:okV 5 a b s=true)(w:World):Calls prog 9 #[V 5 a b s] w fun e w'=>∃x',e=.returned (.tuple #[x',.int .i64 0])∧Bw w w' x' (16::encW a):=by
 have hl:=zBF a h1 h2;have HA:Hid _:=zFS a h1 h2;clear h1 h2;have HV:Hid (∀w,CG 26 #[V 5 a b s] w (.bool (okV 5 a b s))):=zAm 5 a b s hs;rw[h] at HV;clear h
 go_enter func9,ntmps9
 go_wp2_with fail
 refine(HV.out _).mono ?_;rintro e w1 ⟨rfl,hb1⟩;have hc1:∀o,w1.cell? {block:=w.heap.size,off:=o}=[I 5,I a,I b,.string s][o]?:=G.cells hb1 (by simp) (by simp)
 have hz1':w.heap.size<w1.heap.size:=by have:=hb1.size;simp at this;omega
 have hG1:G w w1:=((G.refl w).alloc _).trans hb1;have HG:Hid _:=hG1;clear hb1 HV hG1
 have hL:RowB (w1.alloc (.cells #[.int .u8 16] 5)) (.slice (some ⟨w1.heap.size,0,none⟩) 1 1) [16]:=by
  have:=(Bw.fresh (G.refl w1) [16] #[.int .u8 16] rfl (by decide)).row
  simpa using this
 have HL:Hid (RowB (w1.alloc (.cells #[.int .u8 16] 5)) (.slice (some ⟨w1.heap.size,0,none⟩) 1 1) [16]):=hL;clear hL
 go_wp2_with fail
 refine(HA.out _).mono ?_;rintro e w2 ⟨x2,rfl,hB⟩;have HJ:Hid _:=zDO _ _ [16] (encW a) w2 (RowB.G HL.out hB.g) hB.row (by simp) (by omega);have HG2:Hid (G w w2):=G.trans (G.alloc HG.out _) hB.g;clear hB HL
 go_wp2_with fail
 refine Calls.mono HJ.out ?_;rintro e w3 ⟨x3,rfl,hB⟩;have HB3:Hid (Bw w w3 x3 (16::encW a)):=hB.down HG2.out;clear hB HJ
 go_wp2
 go_ret2
 exact⟨_,rfl,HB3.out⟩
theorem zXp(a b:Int)(s:ByteArray)(h1:-9223372036854775808≤a)(h2:a≤9223372036854775807)(hs:s.size≤4611686018427387904)(h:okV 6 a b s=true)(w:World):Calls prog 9 #[V 6 a b s] w fun e w'=>∃x',e=.returned (.tuple #[x',.int .i64 0])∧Bw w w' x' (17::encW a):=by
 have hl:=zBF a h1 h2;have HA:Hid _:=zFS a h1 h2;clear h1 h2;have HV:Hid (∀w,CG 26 #[V 6 a b s] w (.bool (okV 6 a b s))):=zAm 6 a b s hs;rw[h] at HV;clear h
 go_enter func9,ntmps9
 go_wp2_with fail
 refine(HV.out _).mono ?_;rintro e w1 ⟨rfl,hb1⟩;have hc1:∀o,w1.cell? {block:=w.heap.size,off:=o}=[I 6,I a,I b,.string s][o]?:=G.cells hb1 (by simp) (by simp)
 have hz1':w.heap.size<w1.heap.size:=by have:=hb1.size;simp at this;omega
 have hG1:G w w1:=((G.refl w).alloc _).trans hb1;have HG:Hid _:=hG1;clear hb1 HV hG1
 have hL:RowB (w1.alloc (.cells #[.int .u8 17] 5)) (.slice (some ⟨w1.heap.size,0,none⟩) 1 1) [17]:=by
  have:=(Bw.fresh (G.refl w1) [17] #[.int .u8 17] rfl (by decide)).row
  simpa using this
 have HL:Hid (RowB (w1.alloc (.cells #[.int .u8 17] 5)) (.slice (some ⟨w1.heap.size,0,none⟩) 1 1) [17]):=hL;clear hL
 go_wp2_with fail
 refine(HA.out _).mono ?_;rintro e w2 ⟨x2,rfl,hB⟩;have HJ:Hid _:=zDO _ _ [17] (encW a) w2 (RowB.G HL.out hB.g) hB.row (by simp) (by omega);have HG2:Hid (G w w2):=G.trans (G.alloc HG.out _) hB.g;clear hB HL
 go_wp2_with fail
 refine Calls.mono HJ.out ?_;rintro e w3 ⟨x3,rfl,hB⟩;have HB3:Hid (Bw w w3 x3 (17::encW a)):=hB.down HG2.out;clear hB HJ
 go_wp2
 go_ret2
 exact⟨_,rfl,HB3.out⟩
theorem zXr(a b:Int)(s:ByteArray)(hs:s.size≤4611686018427387904)(h:okV 4 a b s=true)(w:World):Calls prog 9 #[V 4 a b s] w fun e w'=>∃x',e=.returned (.tuple #[x',.int .i64 0])∧Bw w w' x' ((32::strB s s.size)++[0,0]):=by
 obtain⟨i0,hi,hz0,hz1,hz2⟩:=info_parts zAW;have hb:=get_bt s
 have hs32:s.size≤32:=by simp[okV,Bool.and_eq_true] at h;exact h.1.2
 have hsi:(s.size:Int)≤32:=by omega
 have HV:Hid (∀w,CG 26 #[V 4 a b s] w (.bool (okV 4 a b s))):=zAm 4 a b s hs;rw[h] at HV;clear h
 go_enter func9,ntmps9
 go_wp2_with fail
 refine(HV.out _).mono ?_;rintro e w1 ⟨rfl,hb1⟩;have hc1:∀o,w1.cell? {block:=w.heap.size,off:=o}=[I 4,I a,I b,.string s][o]?:=G.cells hb1 (by simp) (by simp)
 have hz1':w.heap.size<w1.heap.size:=by have:=hb1.size;simp at this;omega
 have hG1:G w w1:=((G.refl w).alloc _).trans hb1;have HG:Hid _:=hG1;clear hb1 HV hG1
 go_wp2
 go_loopw [4,5] (fun x i W=>∃m:Nat,m≤s.size∧i=.int .i64 m∧Bw w1 W x (32::strB s m)) (fun _ i _=>s.size-(RowKit.intOf i).toNat)
 case atStart=>exact⟨0,Nat.zero_le _,rfl,by have:=Bw.fresh (G.refl w1) [32] #[.int .u8 32] rfl (by decide);simpa [strB,encS] using this⟩
 case round=>
  obtain⟨m,hm,rfl,hB⟩:=hrel;have hsz:=hB.g.size;have hcr:∀o,wr.cell? {block:=w.heap.size,off:=o}=[I 4,I a,I b,.string s][o]?:=G.cells hB.g hc1 hz1';have HB:Hid _:=hB;clear hB;have hlen:=zIF s m
  by_cases hlt:m<s.size
  ·have hI:(m:Int)<(s.size:Int):=by omega
   have x0:=bt_nonneg s m;have x1:=bt_le s m
   by_cases hz:bt s m=0
   ·have E1:Hid _:=zBL s m hz
    go_wp2_with (at_builtin;refine wpList_append_own _ rfl _ _ 33 rfl w1.heap.size 5 i0 (.int .u8 0) 1 1 underlying33 hi hz0 hz1 hz2 rfl (by decide) _ _ _ rfl (World.ownsRow.alloc HB.out.own _) ⟨wr.heap.size,0,none⟩ 1 1 [bv 0] rfl ?c0 ?c1 ?c2 ?c3 ?c4 ?c5 ?_)
    case c0=>rfl
    case c1=>
     intro j u hj
     match j,hj with
     | 0,hj=>simp at hj;subst hj;simp[Addr.add]
    case c2=>first|rfl|(intro u hu;simp at hu;subst hu;rfl)
    case c3=>unfold maxLen;(first|omega|(simp;omega))
    case c4=>(first|omega|(simp;omega))
    case c5=>(first|omega|(simp;omega))
    intro x2 w2 hown hgrow _;have HB2:Hid (Bw w1 w2 x2 ((32::strB s m)++[0])):=(HB.out.keep ((G.refl _).alloc _)).app [0] 1 rfl (by simpa using hown) hgrow;have hs2:=HB2.out.g.size;have hcr2:∀o,w2.cell? {block:=w.heap.size,off:=o}=[I 4,I a,I b,.string s][o]?:=G.cells HB2.out.g hc1 hz1';clear hown hgrow HB
    go_wp2_with (at_builtin;refine wpList_append_own _ rfl _ _ 33 rfl w1.heap.size 5 i0 (.int .u8 0) 1 1 underlying33 hi hz0 hz1 hz2 rfl (by decide) _ _ _ rfl (World.ownsRow.alloc HB2.out.own _) ⟨w2.heap.size,0,none⟩ 1 1 [bv 255] rfl ?d0 ?d1 ?d2 ?d3 ?d4 ?d5 ?_)
    case d0=>rfl
    case d1=>
     intro j u hj
     match j,hj with
     | 0,hj=>simp at hj;subst hj;simp[Addr.add]
    case d2=>first|rfl|(intro u hu;simp at hu;subst hu;rfl)
    case d3=>unfold maxLen;(first|omega|(simp;omega))
    case d4=>(first|omega|(simp;omega))
    case d5=>(first|omega|(simp;omega))
    intro x3 w3 hown hgrow _;have HB3:Hid (Bw w1 w3 x3 (((32::strB s m)++[0])++[255])):=(HB2.out.keep ((G.refl _).alloc _)).app [255] 1 rfl (by simpa using hown) hgrow;clear hown hgrow HB2
    go_wp2
    go_roundw
    case rel=>exact⟨m+1,by omega,by go_num,by have:=HB3.out;rw[E1.out];simpa using this⟩
    case measure=>simp[RowKit.intOf];omega
   ·have E1:Hid _:=zBk s m hz
    have hz':(bt s m==0)=false:=beq_false_of_ne hz
    have eb:Value.int .u8 (bt s m)=bv (bt s m).toNat:=by show Value.int .u8 _=Value.int .u8 _;congr 1;omega
    have EB:Hid _:=eb;clear eb
    go_wp2_with (at_builtin;refine wpList_append_own _ rfl _ _ 33 rfl w1.heap.size 5 i0 (.int .u8 0) 1 1 underlying33 hi hz0 hz1 hz2 rfl (by decide) _ _ _ rfl (World.ownsRow.alloc HB.out.own _) ⟨wr.heap.size,0,none⟩ 1 1 [.int .u8 (bt s m)] rfl ?c0 ?c1 ?c2 ?c3 ?c4 ?c5 ?_)
    case c0=>rfl
    case c1=>
     intro j u hj
     match j,hj with
     | 0,hj=>simp at hj;subst hj;simp[Addr.add]
    case c2=>first|rfl|(intro u hu;simp at hu;subst hu;rfl)
    case c3=>unfold maxLen;(first|omega|(simp;omega))
    case c4=>(first|omega|(simp;omega))
    case c5=>(first|omega|(simp;omega))
    intro x2 w2 hown hgrow _;have HB2:Hid (Bw w1 w2 x2 ((32::strB s m)++[(bt s m).toNat])):=(HB.out.keep ((G.refl _).alloc _)).app [(bt s m).toNat] 1 rfl (by rw[EB.out] at hown;simpa using hown) hgrow;have hcr2:∀o,w2.cell? {block:=w.heap.size,off:=o}=[I 4,I a,I b,.string s][o]?:=G.cells HB2.out.g hc1 hz1';clear hown hgrow HB
    go_wp2
    go_roundw
    case rel=>exact⟨m+1,by omega,by go_num,by have:=HB2.out;rw[E1.out];simpa using this⟩
    case measure=>simp[RowKit.intOf];omega
  ·have e:m=s.size:=by omega
   subst e
   have hI:¬(s.size:Int)<(s.size:Int):=by omega
   go_wp2_with (at_builtin;refine wpList_append_own _ rfl _ _ 33 rfl w1.heap.size 5 i0 (.int .u8 0) 1 1 underlying33 hi hz0 hz1 hz2 rfl (by decide) _ _ _ rfl (World.ownsRow.alloc HB.out.own _) ⟨wr.heap.size,0,none⟩ 2 2 [bv 0,bv 0] rfl ?c0 ?c1 ?c2 ?c3 ?c4 ?c5 ?_)
   case c1=>
    intro j u hj
    match j,hj with
    | 0,hj=>simp at hj;subst hj;simp
    | 1,hj=>simp at hj;subst hj;simp
   case c2=>first|rfl|(intro u hu;simp at hu;rcases hu with rfl|rfl<;>rfl)
   case c3=>unfold maxLen;(first|omega|(simp;omega))
   case c4=>(first|omega|(simp;omega))
   case c5=>(first|omega|(simp;omega))
   intro x2 w2 hown hgrow _;have HB2:Hid (Bw w1 w2 x2 ((32::strB s s.size)++[0,0])):=(HB.out.keep ((G.refl _).alloc _)).app [0,0] 2 rfl (by simpa using hown) hgrow;clear hown hgrow HB
   go_wp2
   go_ret2
   exact⟨_,rfl,by simpa using HB2.out.down HG.out⟩
end
section
open Go.RowKit Go.Shelf Go.PlainAid Go.Lib
theorem zPu{Y:World}{ad:Addr}{v:Value}(h:Y.cell? ad=some v):∀(j:Nat) (u:Value),[v][j]?=some u→Y.cell? (ad.add j)=some u:=by
 intro j u hj
 match j,hj with
 | 0,hj=>simp at hj;subst hj;exact h
def PR(n:Int):Prop:=-33554432≤n∧n≤33554432
theorem zXs(a b:Int)(s:ByteArray)(h1:-33554432≤a)(h2:a≤33554432)(h3:-33554432≤b)(h4:b≤33554432)(hs:s.size≤4611686018427387904)(h:okV 3 a b s=true)(w:World) :
  Calls prog 9 #[V 3 a b s] w fun e w'=>∃x',e=.returned (.tuple #[x',.int .i64 0])∧Bw w w' x' ((encW a++[1])++encW b):=by
 obtain⟨i0,hi,hz0,hz1,hz2⟩:=info_parts zAW;have hla:=zBF a (by omega) (by omega);have hlb:=zBF b (by omega) (by omega);have HX:Hid (∀n,PR n→∀w,Calls prog 28 #[.int .i64 n] w fun e w'=>∃x',e=.returned x'∧Bw w w' x' (encW n)):=fun n hn w=>zFS n (by have:=hn.1;omega) (by have:=hn.2;omega) w;have HJ:Hid (∀a b xs ys w,RowB w a xs→RowB w b ys→xs.length≤1000→ys.length≤1000→Calls prog 27 #[a,b] w fun e w'=>∃x',e=.returned x'∧Bw w w' x' (xs++ys)):=zDO;have pa:PR a:=⟨h1,h2⟩;have pb:PR b:=⟨h3,h4⟩;have HV:Hid (∀w,CG 26 #[V 3 a b s] w (.bool (okV 3 a b s))):=zAm 3 a b s hs;rw[h] at HV;clear h h1 h2 h3 h4
 go_enter func9,ntmps9
 go_wp2_with fail
 refine(HV.out _).mono ?_;rintro e w1 ⟨rfl,hb1⟩;have hc1:∀o,w1.cell? {block:=w.heap.size,off:=o}=[I 3,I a,I b,.string s][o]?:=G.cells hb1 (by simp) (by simp)
 have hz1':w.heap.size<w1.heap.size:=by have:=hb1.size;simp at this;omega
 have hG1:G w w1:=((G.refl w).alloc _).trans hb1;have HG:Hid _:=hG1;clear hb1 HV hG1
 go_wp2
 have HK:Hid (∀W,G w1 W→(∀(o:Nat),W.cell? {block:=w.heap.size,off:=o}=[I 3,I a,I b,.string s][o]?)∧G w1 W):=fun W g=>⟨G.cells g hc1 hz1',g⟩;have hS:(∀(o:Nat),w1.cell? {block:=w.heap.size,off:=o}=[I 3,I a,I b,.string s][o]?)∧G w1 w1:=⟨hc1,G.refl w1⟩;clear hc1 hz1'
 go_region_held3 (fun W=>(∀(o:Nat),W.cell? {block:=w.heap.size,off:=o}=[I 3,I a,I b,.string s][o]?)∧G w1 W) ((first|assumption|exact HK.out _ hB7.g|exact HK.out _ hB6.g|exact HK.out _ (G.drew (And.right (by assumption)))|exact HK.out _ (G.alloc (And.right (by assumption)) _)|exact HK.out _ (G.trans (And.right (by assumption)) hb5.g)))
  (first|(go_at_call 28;refine(HX.out _ (by assumption) _).mono ?_;rintro e w5 ⟨x5,rfl,hb5⟩)|(have hBY:=Bw.down (w0:=w1) hb5 (by repeat(first|exact G.refl _|refine G.alloc ?_ _|refine G.drew ?_));refine(if_pos rfl).mpr ?_;refine wp_append_own _ _ _ 33 rfl w1.heap.size 5 i0 (.int .u8 0) 1 1 underlying33 hi hz0 hz1 hz2 rfl (by decide) _ _ _ rfl (hBY.keep (by repeat(first|exact G.refl _|refine G.alloc ?_ _|refine G.drew ?_))).own _ 1 1 [bv 1] rfl rfl (zPu (by first|(simp;done)|exact(G.cell hb5.g (by simp)).trans (by simp))) (fun u hu=>by simp at hu;subst hu;rfl) (by unfold maxLen;omega) (by omega) (hBY.keep (by repeat(first|exact G.refl _|refine G.alloc ?_ _|refine G.drew ?_))).g.size ?_;intro x6 w6 hown6 hgrow6 _;have hB6:=(hBY.keep (by repeat(first|exact G.refl _|refine G.alloc ?_ _|refine G.drew ?_))).app [1] 1 rfl hown6 hgrow6;clear hown6 hgrow6 hBY)|(go_at_call 27;refine(HJ.out _ _ (encW a++[1]) (encW b) _ (RowB.G hB6.row (G.trans (by repeat(first|exact G.refl _|refine G.alloc ?_ _|refine G.drew ?_)) hb5.g)) hb5.row (by simp;omega) (by omega)).mono ?_;rintro e w7 ⟨x7,rfl,hb7⟩;have hB7:=Bw.down (w0:=w1) hb7 (hB6.g.trans (G.trans (by repeat(first|exact G.refl _|refine G.alloc ?_ _|refine G.drew ?_)) hb5.g)))|fail)
 all_goals
  have HB7:Hid _:=hB7;clear hB7 hb7 hb5 hB6
  go_wp2
  go_ret2
  exact⟨_,rfl,HB7.out.down HG.out⟩
theorem zFQ(k a b:Int)(s:ByteArray)(hs:s.size≤4611686018427387904)(h:okV k a b s=true)(ha:R64 a)(w:World):Calls prog 9 #[V k a b s] w fun e w'=>∃x',e=.returned (.tuple #[x',.int .i64 0])∧Bw w w' x' (encV k a b s):=by
 have hk:=zAp k a b s h
 have:k=0∨k=1∨k=2∨k=3∨k=4∨k=5∨k=6:=by omega
 rcases this with rfl|rfl|rfl|rfl|rfl|rfl|rfl
 ·exact zXu a b s hs h w
 ·have ha':a=0∨a=1:=by simp[okV,Bool.and_eq_true] at h;exact h.1.1
  rcases ha' with rfl|rfl
  ·exact zSn b s hs h w
  ·exact zSm b s hs h w
 ·exact zXt a b s ha.1 ha.2 hs h w
 ·have hpp:zAD a=true∧zAD b=true:=by simp[okV,Bool.and_eq_true] at h;exact h.1
  have pa:=(zAy a).1 hpp.1;have pb:=(zAy b).1 hpp.2;exact zXs a b s pa.1 pa.2 pb.1 pb.2 hs h w
 ·exact zXr a b s hs h w
 ·exact zXq a b s ha.1 ha.2 hs h w
 ·exact zXp a b s ha.1 ha.2 hs h w
end
end Go.Proofs.YthmdjhfbhbheeaaGreatDoor
