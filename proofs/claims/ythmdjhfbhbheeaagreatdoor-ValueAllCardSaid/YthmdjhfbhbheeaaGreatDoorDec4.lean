import Derived.Laws.BytesArg
import Derived.Lib.Bytes
import Derived.Test.YthmdjhfbhbheeaaGreatDoorEnc5
namespace Go.Proofs.YthmdjhfbhbheeaaGreatDoor
open Go.Proofs.Tryz
set_option maxHeartbeats 16000000
set_option maxRecDepth 100000
section
open Go.RowKit Go.Shelf Go.PlainAid Go.Lib
theorem or_u64(M d:Nat)(hM:M<72057594037927936)(hd:d<256):bits .or .u64 (IntKind.u64.wrap ((M:Int)*256)) (IntKind.u64.wrap (d:Int))=((M*256+d:Nat):Int):=by
 have e1:IntKind.u64.wrap ((M:Int)*256)=((M*256:Nat):Int):=by rw[IntKind.wrap_u64];omega
 have e2:IntKind.u64.wrap (d:Int)=(d:Int):=by rw[IntKind.wrap_u64];omega
 rw[e1,e2]
 have h1:(BitVec.ofInt 64 ((M*256:Nat):Int)).toNat=M*256:=by rw[BitVec.toNat_ofInt];omega
 have h2:(BitVec.ofInt 64 (d:Int)).toNat=d:=by rw[BitVec.toNat_ofInt];omega
 show IntKind.u64.wrap ((BitVec.ofInt 64 ((M*256:Nat):Int) ||| BitVec.ofInt 64 (d:Int)).toNat:Int)=_
 rw[BitVec.toNat_or,h1,h2]
 have h3:M*256 ||| d=M*256+d:=by
  have:=Nat.shiftLeft_add_eq_or_of_lt (b:=d) (i:=8) (by omega) M
  rw[Nat.shiftLeft_eq] at this
  exact this.symm
 rw[h3,IntKind.wrap_u64]
 omega
theorem xor0(d:Nat)(h:d<256):bits .xor .u8 (d:Int) 0=(d:Int):=by
 have:∀n:Fin 256,bits .xor .u8 (n.val:Int) 0=(n.val:Int):=by decide +kernel
 exact this ⟨d,h⟩
theorem xor255(d:Nat)(h:d<256):bits .xor .u8 (d:Int) 255=((255-d:Nat):Int):=by
 have:∀n:Fin 256,bits .xor .u8 (n.val:Int) 255=((255-n.val:Nat):Int):=by decide +kernel
 exact this ⟨d,h⟩
def TWP(bs:List Nat)(n:Int)(ts:List Nat):Prop:=∀n0 rest,R64 n0→bs=encW n0++rest→n=n0∧ts=rest
def TWA(bs:List Nat)(w:World)(e:Ending)(w':World):Prop:=∃(n:Int) (t:Value) (ts:List Nat),e=.returned (.tuple #[.int .i64 n,t])∧R64 n∧RowB w t ts∧TWP bs n ts∧(∀d∈ts,d<256)∧ts.length≤bs.length∧G w w'
theorem row_nil(w:World):RowB w (.slice none 0 0) []:=⟨none,0,rfl,Nat.le_refl _,fun i d h=>by simp at h⟩
theorem r64_wrap(x:Int):R64 (wrap64 x):=by
 unfold R64 wrap64;omega
theorem row_from{w:World}{g o cap k:Nat}{bs:List Nat}(hcap:bs.length≤cap)(hk:k≤bs.length)(hc:∀i d,bs[i]?=some d→w.cell? ⟨g,o+i,none⟩=some (bv d)):RowB w (.slice (some ⟨g,o+k,none⟩) (bs.length-k) (cap-k)) (bs.drop k):=
 ⟨_,cap-k,by rw[List.length_drop],by rw[List.length_drop];omega,fun i d hi=>⟨g,o+k,rfl,by
  rw[Nat.add_assoc]
  rw[List.getElem?_drop] at hi
  exact hc _ d hi⟩⟩
theorem enc_neg{n:Int}(h:n<0):0<(lowB n).length:=by
 unfold lowB
 rw[List.length_map]
 have:n.natAbs≠0:=by omega
 rw[digs_pos this];simp
theorem twp_pos(bs:List Nat)(d0 L:Nat)(hd:bs[0]?=some d0)(hdL:(d0:Int)-64=(L:Int)):TWP bs (wrap64 ((acc ((bs.drop 1).take L):Nat):Int)) (bs.drop (1+L)):=by
 intro n0 rest hr he
 obtain⟨h1,h2,h3⟩:=enc_split he
 have hl8:=low_len n0 hr.1 hr.2
 rw[hd] at h1
 have h1:=Option.some.inj h1
 by_cases hn:n0<0
 ·rw[if_pos hn] at h1
  have:=enc_neg hn
  omega
 ·rw[if_neg hn] at h1
  have hLL:(lowB n0).length=L:=by omega
  rw[hLL] at h2 h3
  refine⟨?_,h3⟩
  rw[h2]
  have hb:=low_back n0
  have hf:(lowB n0).reverse=(lowB n0).reverse.map (flipB n0):=by
   conv=>lhs;rw[←List.map_id (lowB n0).reverse]
   exact List.map_congr_left fun x _=>by unfold flipB;rw[if_neg hn];rfl
  rw[hf,hb,acc_digs]
  unfold wrap64
  have:=hr.2
  omega
theorem tw_pos(g o cap d0 L:Nat)(bs:List Nat)(w:World)(hcap:bs.length≤cap)(hc:∀i d,bs[i]?=some d→w.cell? ⟨g,o+i,none⟩=some (bv d))(hb:∀d∈bs,d<256)(hl:bs.length≤140737488355328)
  (hd:bs[0]?=some d0) (hdL:(d0:Int)-64=(L:Int)) (hL8:L≤8) (hLl:1+L≤bs.length) (hc1:¬cap=1):Calls prog 140 #[.slice (some ⟨g,o,none⟩) bs.length cap] w (TWA bs w):=by
 have HT:Hid _:=twp_pos bs d0 L hd hdL
 have hcell:=hc 0 d0 hd
 rw[Nat.add_zero] at hcell
 have HC:Hid _:=hc
 have HB256:Hid _:=hb
 have hd256:d0<256:=hb d0 (List.mem_of_getElem? hd)
 have hne:(bs.length:Int)≠0:=by omega
 have hleni:(0:Int)<(bs.length:Int):=by omega
 have hLi:((L:Nat):Int)≤(bs.length:Int)-1:=by omega
 have hLi8:((L:Nat):Int)≤8:=by omega
 have hcapL:1+L≤cap:=by omega
 clear hc hb hd
 go_enter func140,ntmps140
 go_wp2
 go_loopw [6,8,35] (fun m _ i W=>∃j:Nat,j≤L∧i=.int .i64 j∧m=.int .u64 ((acc ((bs.drop 1).take j):Nat):Int)∧W=w) (fun _ _ i _=>L-(RowKit.intOf i).toNat)
 case atStart=>exact⟨0,Nat.zero_le _,rfl,rfl,rfl⟩
 case round=>
  obtain⟨j,hj,rfl,rfl,rfl⟩:=hrel
  by_cases hlt:j<L
  ·obtain⟨d,hdj⟩:∃d,bs[1+j]?=some d:=⟨_,List.getElem?_eq_getElem (by omega)⟩
   have hcj:=HC.out (1+j) d hdj
   rw[←Nat.add_assoc] at hcj
   have hji:(j:Int)<L:=by omega
   have hd2:d<256:=HB256.out d (List.mem_of_getElem? hdj)
   have hsub:(bs.drop 1).take (j+1)=(bs.drop 1).take j++[d]:=by
    rw[List.take_add_one,List.getElem?_drop,hdj];rfl
   have hacc:acc ((bs.drop 1).take (j+1))=acc ((bs.drop 1).take j)*256+(d):=by rw[hsub,acc_snoc]
   have hM:acc ((bs.drop 1).take j)<72057594037927936:=by
    have h1:=acc_lt ((bs.drop 1).take j) (fun x hx=>by exact HB256.out x (List.mem_of_mem_drop (List.mem_of_mem_take hx)))
    have h2:((bs.drop 1).take j).length≤7:=by simp;omega
    exact Nat.lt_of_lt_of_le h1 (Nat.pow_le_pow_right (by decide) h2)
   have HA:Hid _:=hacc
   have HO:Hid _:=or_u64 (acc ((bs.drop 1).take j)) (d) hM (by omega)
   have HX:Hid _:=xor0 d hd2
   clear hsub hacc hdj hM
   generalize acc ((bs.drop 1).take j)=M at HA HO
   go_wp2
   go_roundw
   case rel=>exact⟨j+1,by omega,by go_num,by rw[HX.out,HO.out,HA.out],trivial⟩
   case measure=>simp[RowKit.intOf];omega
  ·have e:j=L:=by omega
   subst e
   have hji:¬(j:Int)<(j:Int):=by omega
   obtain⟨MM,hMM⟩:∃MM,acc ((bs.drop 1).take j)=MM:=⟨_,rfl⟩
   rw[hMM] at HT⊢
   clear hMM
   have HR:Hid _:=row_from hcap hLl HC.out
   by_cases hce:cap=1+j
   ·have hbe:bs.length=1+j:=by omega
    have HR0:Hid (RowB wr (.slice (some ⟨g,o,none⟩) (1+j-(1+j)) (1+j-(1+j))) (bs.drop (1+j))):=by
     rw[List.drop_of_length_le (by omega),Nat.sub_self]
     exact⟨_,0,rfl,Nat.le_refl _,fun i d h=>by simp at h⟩
    subst hce
    clear HR
    go_wp2
    go_quiet (fail)
    go_wp2
    go_ret2
    exact⟨_,_,bs.drop (1+j),rfl,r64_wrap _,HR0.out,HT.out,fun d hd'=>HB256.out d (List.mem_of_mem_drop hd'),by rw[List.length_drop];omega,by repeat(first|exact G.refl _|refine G.drewNE ?_ _|refine G.drew ?_)⟩
   ·go_wp2
    go_quiet (fail)
    go_wp2
    go_ret2
    exact⟨_,_,bs.drop (1+j),rfl,r64_wrap _,HR.out,HT.out,fun d hd'=>HB256.out d (List.mem_of_mem_drop hd'),by rw[List.length_drop];omega,by repeat(first|exact G.refl _|refine G.drewNE ?_ _|refine G.drew ?_)⟩
theorem twp_neg(bs:List Nat)(d0 L:Nat)(hd:bs[0]?=some d0)(hdL:(d0:Int)-64 = -(L:Int))(hL1:1≤L):TWP bs (wrap64 (IntKind.u64.wrap (-((acc (((bs.drop 1).take L).map (255 - ·)):Nat):Int)))) (bs.drop (1+L)):=by
 intro n0 rest hr he
 obtain⟨h1,h2,h3⟩:=enc_split he
 have hl8:=low_len n0 hr.1 hr.2
 rw[hd] at h1
 have h1:=Option.some.inj h1
 by_cases hn:n0<0
 ·rw[if_pos hn] at h1
  have hLL:(lowB n0).length=L:=by omega
  rw[hLL] at h2 h3
  refine⟨?_,h3⟩
  rw[h2]
  have hb:=low_back n0
  have hf:(lowB n0).reverse.map (255 - ·)=(lowB n0).reverse.map (flipB n0):=List.map_congr_left fun x _=>by unfold flipB;rw[if_pos hn]
  rw[hf,hb,acc_digs,IntKind.wrap_u64]
  unfold wrap64
  have:=hr.1
  omega
 ·rw[if_neg hn] at h1
  omega
theorem tw_neg(g o cap d0 L:Nat)(bs:List Nat)(w:World)(hcap:bs.length≤cap)(hc:∀i d,bs[i]?=some d→w.cell? ⟨g,o+i,none⟩=some (bv d))(hb:∀d∈bs,d<256)(hl:bs.length≤140737488355328)
  (hd:bs[0]?=some d0) (hdL:(d0:Int)-64 = -(L:Int)) (hL1:1≤L) (hL8:L≤8) (hLl:1+L≤bs.length) (hc1:¬cap=1):Calls prog 140 #[.slice (some ⟨g,o,none⟩) bs.length cap] w (TWA bs w):=by
 have HT:Hid _:=twp_neg bs d0 L hd hdL hL1
 have hcell:=hc 0 d0 hd
 rw[Nat.add_zero] at hcell
 have HC:Hid _:=hc
 have HB256:Hid _:=hb
 have hd256:d0<256:=hb d0 (List.mem_of_getElem? hd)
 have hne:(bs.length:Int)≠0:=by omega
 have hleni:(0:Int)<(bs.length:Int):=by omega
 have hLi:((L:Nat):Int)≤(bs.length:Int)-1:=by omega
 have hLi8:((L:Nat):Int)≤8:=by omega
 have hcapL:1+L≤cap:=by omega
 clear hc hb hd
 go_enter func140,ntmps140
 go_wp2
 go_loopw [6,8,35] (fun m _ i W=>∃j:Nat,j≤L∧i=.int .i64 j∧m=.int .u64 ((acc (((bs.drop 1).take j).map (255 - ·)):Nat):Int)∧W=w) (fun _ _ i _=>L-(RowKit.intOf i).toNat)
 case atStart=>exact⟨0,Nat.zero_le _,rfl,rfl,rfl⟩
 case round=>
  obtain⟨j,hj,rfl,rfl,rfl⟩:=hrel
  by_cases hlt:j<L
  ·obtain⟨d,hdj⟩:∃d,bs[1+j]?=some d:=⟨_,List.getElem?_eq_getElem (by omega)⟩
   have hcj:=HC.out (1+j) d hdj
   rw[←Nat.add_assoc] at hcj
   have hji:(j:Int)<L:=by omega
   have hd2:d<256:=HB256.out d (List.mem_of_getElem? hdj)
   have hsub:(bs.drop 1).take (j+1)=(bs.drop 1).take j++[d]:=by
    rw[List.take_add_one,List.getElem?_drop,hdj];rfl
   have hacc:acc (((bs.drop 1).take (j+1)).map (255 - ·))=acc (((bs.drop 1).take j).map (255 - ·))*256+(255-d):=by rw[hsub,List.map_append,List.map_singleton,acc_snoc]
   have hM:acc (((bs.drop 1).take j).map (255 - ·))<72057594037927936:=by
    have h1:=acc_lt (((bs.drop 1).take j).map (255 - ·)) (fun x hx=>by obtain⟨y,_,rfl⟩:=List.mem_map.1 hx;omega)
    have h2:(((bs.drop 1).take j).map (255 - ·)).length≤7:=by simp;omega
    exact Nat.lt_of_lt_of_le h1 (Nat.pow_le_pow_right (by decide) h2)
   have HA:Hid _:=hacc
   have HO:Hid _:=or_u64 (acc (((bs.drop 1).take j).map (255 - ·))) (255-d) hM (by omega)
   have HX:Hid _:=xor255 d hd2
   clear hsub hacc hdj hM
   generalize acc (((bs.drop 1).take j).map (255 - ·))=M at HA HO
   go_wp2
   go_roundw
   case rel=>exact⟨j+1,by omega,by go_num,by rw[HX.out,HO.out,HA.out],trivial⟩
   case measure=>simp[RowKit.intOf];omega
  ·have e:j=L:=by omega
   subst e
   have hji:¬(j:Int)<(j:Int):=by omega
   obtain⟨MM,hMM⟩:∃MM,acc (((bs.drop 1).take j).map (255 - ·))=MM:=⟨_,rfl⟩
   rw[hMM] at HT⊢
   clear hMM
   have HR:Hid _:=row_from hcap hLl HC.out
   by_cases hce:cap=1+j
   ·have hbe:bs.length=1+j:=by omega
    have HR0:Hid (RowB wr (.slice (some ⟨g,o,none⟩) (1+j-(1+j)) (1+j-(1+j))) (bs.drop (1+j))):=by
     rw[List.drop_of_length_le (by omega),Nat.sub_self]
     exact⟨_,0,rfl,Nat.le_refl _,fun i d h=>by simp at h⟩
    subst hce
    clear HR
    go_wp2
    go_quiet (fail)
    go_wp2
    go_ret2
    exact⟨_,_,bs.drop (1+j),rfl,r64_wrap _,HR0.out,HT.out,fun d hd'=>HB256.out d (List.mem_of_mem_drop hd'),by rw[List.length_drop];omega,by repeat(first|exact G.refl _|refine G.drewNE ?_ _|refine G.drew ?_)⟩
   ·go_wp2
    go_quiet (fail)
    go_wp2
    go_ret2
    exact⟨_,_,bs.drop (1+j),rfl,r64_wrap _,HR.out,HT.out,fun d hd'=>HB256.out d (List.mem_of_mem_drop hd'),by rw[List.length_drop];omega,by repeat(first|exact G.refl _|refine G.drewNE ?_ _|refine G.drew ?_)⟩
theorem twb_pos_a(g o cap d0 L:Nat)(bs:List Nat)(w:World)(hl:bs.length≤140737488355328)(hcell:w.cell? ⟨g,o,none⟩=some (bv d0))(hd256:d0<256)(hlen:0<bs.length)(hdL:(d0:Int)-64=(L:Int))(hbig:(8:Int)<L)(HT:Hid (TWP bs 0 [])):Calls prog 140 #[.slice (some ⟨g,o,none⟩) bs.length cap] w (TWA bs w):=by
 have hne:(bs.length:Int)≠0:=by omega
 have hleni:(0:Int)<(bs.length:Int):=by omega
 go_enter func140,ntmps140
 go_wp2
 go_ret2
 exact⟨0,_,[],rfl,by unfold R64;omega,row_nil w,HT.out,by simp,by simp,G.refl _⟩
theorem twb_pos_b(g o cap d0 L:Nat)(bs:List Nat)(w:World)(hl:bs.length≤140737488355328)(hcell:w.cell? ⟨g,o,none⟩=some (bv d0))(hd256:d0<256)(hlen:0<bs.length)(hdL:(d0:Int)-64=(L:Int))(hbig:¬(8:Int)<L)(hb2:(bs.length:Int)-1<L)(HT:Hid (TWP bs 0 [])):Calls prog 140 #[.slice (some ⟨g,o,none⟩) bs.length cap] w (TWA bs w):=by
 have hne:(bs.length:Int)≠0:=by omega
 have hleni:(0:Int)<(bs.length:Int):=by omega
 go_enter func140,ntmps140
 go_wp2
 go_ret2
 exact⟨0,_,[],rfl,by unfold R64;omega,row_nil w,HT.out,by simp,by simp,G.refl _⟩
theorem twb_neg_a(g o cap d0 L:Nat)(bs:List Nat)(w:World)(hl:bs.length≤140737488355328)(hcell:w.cell? ⟨g,o,none⟩=some (bv d0))(hd256:d0<256)(hlen:0<bs.length)(hdL:(d0:Int)-64 = -(L:Int))(hL1:1≤L)(hbig:(8:Int)<L)(HT:Hid (TWP bs 0 [])):Calls prog 140 #[.slice (some ⟨g,o,none⟩) bs.length cap] w (TWA bs w):=by
 have hne:(bs.length:Int)≠0:=by omega
 have hleni:(0:Int)<(bs.length:Int):=by omega
 go_enter func140,ntmps140
 go_wp2
 go_ret2
 exact⟨0,_,[],rfl,by unfold R64;omega,row_nil w,HT.out,by simp,by simp,G.refl _⟩
theorem twb_neg_b(g o cap d0 L:Nat)(bs:List Nat)(w:World)(hl:bs.length≤140737488355328)(hcell:w.cell? ⟨g,o,none⟩=some (bv d0))(hd256:d0<256)(hlen:0<bs.length)(hdL:(d0:Int)-64 = -(L:Int))(hL1:1≤L)(hbig:¬(8:Int)<L)(hb2:(bs.length:Int)-1<L)(HT:Hid (TWP bs 0 [])):Calls prog 140 #[.slice (some ⟨g,o,none⟩) bs.length cap] w (TWA bs w):=by
 have hne:(bs.length:Int)≠0:=by omega
 have hleni:(0:Int)<(bs.length:Int):=by omega
 go_enter func140,ntmps140
 go_wp2
 go_ret2
 exact⟨0,_,[],rfl,by unfold R64;omega,row_nil w,HT.out,by simp,by simp,G.refl _⟩
theorem tw_one(g o:Nat)(bs:List Nat)(w:World)(hcell:w.cell? ⟨g,o,none⟩=some (bv 64))(hlen:bs.length=1)(HT:Hid (TWP bs 0 [])):Calls prog 140 #[.slice (some ⟨g,o,none⟩) bs.length 1] w (TWA bs w):=by
 rw[hlen]
 go_enter func140,ntmps140
 go_wp2
 go_loopw [6,8,35] (fun m _ i W=>i=.int .i64 0∧m=.int .u64 0∧W=w) (fun _ _ i _=>0)
 case atStart=>exact⟨rfl,rfl,rfl⟩
 case round=>
  obtain⟨rfl,rfl,rfl⟩:=hrel
  go_wp2
  go_quiet (fail)
  go_wp2
  go_ret2
  exact⟨0,_,[],rfl,by unfold R64;omega,⟨_,0,rfl,Nat.le_refl _,fun i d h=>by simp at h⟩,HT.out,by simp,by simp,by repeat(first|exact G.refl _|refine G.drewNE ?_ _|refine G.drew ?_)⟩
theorem tw_nil(p:Option Addr)(cap:Nat)(bs:List Nat)(w:World)(h0:bs.length=0)(HT:Hid (TWP bs 0 [])):Calls prog 140 #[.slice p bs.length cap] w (TWA bs w):=by
 rw[h0]
 go_enter func140,ntmps140
 go_wp2
 go_ret2
 exact⟨0,_,[],rfl,by unfold R64;omega,row_nil w,HT.out,by simp,by simp,G.refl _⟩
theorem twp_no(bs:List Nat)(d0:Nat)(hd:bs[0]?=some d0)(h:∀L:Nat,(d0:Int)-64=L∨(d0:Int)-64 = -(L:Int)→8<L∨bs.length<1+L):TWP bs 0 []:=by
 intro n0 rest hr he
 exfalso
 have h1:=(enc_split he).1
 have hl8:=low_len n0 hr.1 hr.2
 rw[hd] at h1
 have h1:=Option.some.inj h1
 have hll:=congrArg List.length he
 simp[encW] at hll
 by_cases hn:n0<0
 ·rw[if_pos hn] at h1
  have:=h (lowB n0).length (.inr (by omega))
  omega
 ·rw[if_neg hn] at h1
  have:=h (lowB n0).length (.inl (by omega))
  omega
theorem tw_any(x:Value)(bs:List Nat)(w:World)(hx:RowB w x bs)(hb:∀d∈bs,d<256)(hl:bs.length≤140737488355328):Calls prog 140 #[x] w (TWA bs w):=by
 obtain⟨p,cap,rfl,hcap,hc⟩:=hx
 by_cases h0:bs.length=0
 ·exact tw_nil p cap bs w h0 (fun n0 rest _ he=>by rw[he] at h0;simp[encW] at h0)
 obtain⟨d0,hd⟩:∃d0,bs[0]?=some d0:=⟨_,List.getElem?_eq_getElem (by omega)⟩
 have hd256:d0<256:=hb d0 (List.mem_of_getElem? hd)
 obtain⟨g,o,rfl,hcell⟩:=hc 0 d0 hd
 rw[Nat.add_zero] at hcell
 have hc':∀i d,bs[i]?=some d→w.cell? ⟨g,o+i,none⟩=some (bv d):=fun i d hi=>by
  obtain⟨g',o',he,h2⟩:=hc i d hi
  cases he;exact h2
 by_cases hs:d0<64
 ·obtain⟨L,hL⟩:∃L:Nat,(d0:Int)-64 = -(L:Int):=⟨64-d0,by omega⟩
  by_cases h8:8<L
  ·exact twb_neg_a g o cap d0 L bs w hl hcell hd256 (by omega) hL (by omega) (by omega) (twp_no bs d0 hd fun L' h=>by omega)
  ·by_cases h2:bs.length<1+L
   ·exact twb_neg_b g o cap d0 L bs w hl hcell hd256 (by omega) hL (by omega) (by omega) (by omega) (twp_no bs d0 hd fun L' h=>by omega)
   ·exact tw_neg g o cap d0 L bs w hcap hc' hb hl hd hL (by omega) (by omega) (by omega) (by omega)
 ·obtain⟨L,hL⟩:∃L:Nat,(d0:Int)-64=(L:Int):=⟨d0-64,by omega⟩
  by_cases h8:8<L
  ·exact twb_pos_a g o cap d0 L bs w hl hcell hd256 (by omega) hL (by omega) (twp_no bs d0 hd fun L' h=>by omega)
  ·by_cases h2:bs.length<1+L
   ·exact twb_pos_b g o cap d0 L bs w hl hcell hd256 (by omega) hL (by omega) (by omega) (twp_no bs d0 hd fun L' h=>by omega)
   ·by_cases hc1:cap=1
    ·subst hc1
     have hd64:d0=64:=by omega
     subst hd64
     have hlen:bs.length=1:=by omega
     refine tw_one g o bs w hcell hlen ?_
     have hT:=twp_pos bs 64 0 hd (by omega)
     rw[List.take_zero,List.drop_of_length_le (by omega)] at hT
     have e0:wrap64 ((acc []:Nat):Int)=0:=by unfold wrap64 acc;simp
     rw[e0] at hT
     exact hT
    ·exact tw_pos g o cap d0 L bs w hcap hc' hb hl hd hL (by omega) (by omega) hc1
end
section
open Go.RowKit Go.Shelf Go.PlainAid Go.Lib
def strN(xs:List Nat):ByteArray:=strOfNums (xs.map fun d:Nat=>(d:Int))
theorem row_str{w:World}{x:Value}{xs:List Nat}(h:RowB w x xs):(convert 33 9 x).run prog w=.ok (.string (strN xs)) w:=by
 obtain⟨p,cap,rfl,hcap,hc⟩:=h
 cases xs with
 | nil=>
  cases p with
  | none=>
   have e:strN []=ByteArray.empty:=rfl
   rw[e]
   exact run_convert_bytes_nil w 33 5 underlying33 underlying5 0 cap 9 underlying9
  | some a=>
   have e:strN []=ByteArray.empty:=rfl
   rw[e]
   have h:=run_convert_bytes_string (P:=prog) w 33 9 5 (some a) 0 cap underlying33 underlying5 underlying9
   refine h.trans ?_
   simp[Conv.bytesToString,loadCells,loadCellsFrom]
 | cons d xs=>
  obtain⟨g,o,rfl,hcell⟩:=hc 0 d rfl
  refine run_convert_bytes_arg w 33 5 underlying33 underlying5 g o _ cap ((d::xs).map fun d:Nat=>(d:Int)) (by simp) (fun i hi=>?_) 9 underlying9
  obtain⟨e,he⟩:∃e,(d::xs)[i]?=some e:=⟨_,List.getElem?_eq_getElem hi⟩
  obtain⟨g',o',hp,h2⟩:=hc i e he
  cases hp
  rw[h2,List.getD,List.getElem?_map,he]
  rfl
theorem strN_back(s:ByteArray):strN ((List.range s.size).map fun k=>(bt s k).toNat)=s:=by
 have h:(strN ((List.range s.size).map fun k=>(bt s k).toNat)).data.toList=s.data.toList:=by
  have e1:(strN ((List.range s.size).map fun k=>(bt s k).toNat)).data.toList=bytesOf (((List.range s.size).map fun k=>(bt s k).toNat).map fun d:Nat=>(d:Int)):=by
   rw[←strOfNums_toList]
   simp[strN,ByteArray.toList_eq]
  rw[e1]
  unfold bytesOf
  apply List.ext_getElem
  ·simp
  ·intro i h1 h2
   have hi:i<s.size:=by simpa using h1
   simp only[List.getElem_map,List.getElem_range,Int.toNat_natCast]
   have:=get_bt s i hi
   rw[←this]
   simp
   rfl
 have h2:(strN ((List.range s.size).map fun k=>(bt s k).toNat)).data=s.data:=Array.toList_inj.1 h
 cases s;cases hs:strN _ with
 | mk d=>simp[hs] at h2;rw[h2]
def TSP(bs:List Nat)(s:ByteArray):Prop:=∀s0 rest,s0.size≤32→bs=strB s0 s0.size++(0::0::rest)→s=s0
def pre(s:ByteArray)(m:Nat):List Nat:=(List.range m).map fun k=>(bt s k).toNat
theorem pre_len(s:ByteArray)(m:Nat):(pre s m).length=m:=by simp[pre]
theorem pre_succ(s:ByteArray)(m:Nat):pre s (m+1)=pre s m++[(bt s m).toNat]:=by simp[pre,List.range_succ]
def TPr(bs:List Nat)(i:Nat)(xs:List Nat):Prop:=∀s0 rest,s0.size≤32→bs=strB s0 s0.size++(0::0::rest)→∃m,m≤s0.size∧i=(strB s0 m).length∧xs=pre s0 m
theorem tp_start(bs:List Nat):TPr bs 0 []:=fun _ _ _ _=>⟨0,Nat.zero_le _,rfl,rfl⟩
theorem strB_split(s:ByteArray)(m n:Nat)(h:m≤n):∃t,strB s n=strB s m++t:=by
 induction n with
 | zero=>exact⟨[],by
             have:m=0:=by omega
             subst this;simp⟩
 | succ n ih=>
  by_cases e:m=n+1
  ·subst e;exact⟨[],by simp⟩
  ·obtain⟨t,ht⟩:=ih (by omega)
   by_cases hz:bt s n=0
   ·exact⟨t++[0,255],by rw[strB_zero s n hz,ht,List.append_assoc]⟩
   ·exact⟨t++[(bt s n).toNat],by rw[strB_other s n hz,ht,List.append_assoc]⟩
theorem str_at{bs rest:List Nat}{s0:ByteArray}{m:Nat}(he:bs=strB s0 s0.size++(0::0::rest))(hm:m≤s0.size) :
  (m<s0.size∧bt s0 m=0∧bs[(strB s0 m).length]?=some 0∧bs[(strB s0 m).length+1]?=some 255∧(strB s0 (m+1)).length=(strB s0 m).length+2)
  ∨ (m<s0.size∧bt s0 m≠0∧bs[(strB s0 m).length]?=some (bt s0 m).toNat∧(strB s0 (m+1)).length=(strB s0 m).length+1)
  ∨ (m=s0.size∧bs[(strB s0 m).length]?=some 0∧bs[(strB s0 m).length+1]?=some 0):=by
 by_cases h:m<s0.size
 ·obtain⟨t,ht⟩:=strB_split s0 (m+1) s0.size h
  by_cases hz:bt s0 m=0
  ·refine .inl ⟨h,hz,?_,?_,by rw[strB_zero s0 m hz];simp⟩
   iterate 2
    ·rw[he,ht,strB_zero s0 m hz];simp
  ·refine .inr (.inl ⟨h,hz,?_,by rw[strB_other s0 m hz];simp⟩)
   rw[he,ht,strB_other s0 m hz];simp
 ·have e:m=s0.size:=by omega
  subst e
  refine .inr (.inr ⟨rfl,?_,?_⟩)
  iterate 2
   ·rw[he];simp
theorem tp_other{bs:List Nat}{i d:Nat}{xs:List Nat}(h:TPr bs i xs)(hd:bs[i]?=some d)(h0:d≠0):TPr bs (i+1) (xs++[d]):=by
 intro s0 rest hs he
 obtain⟨m,hm,rfl,rfl⟩:=h s0 rest hs he
 rcases str_at he hm with ⟨_,_,h1,_⟩|⟨hlt,hz,h1,h2⟩|⟨_,h1,_⟩
 ·rw[hd] at h1;cases h1;exact absurd rfl h0
 ·rw[hd] at h1;cases h1
  exact⟨m+1,hlt,h2.symm,(pre_succ s0 m).symm⟩
 ·rw[hd] at h1;cases h1;exact absurd rfl h0
theorem tp_zero{bs:List Nat}{i d:Nat}{xs:List Nat}(h:TPr bs i xs)(hd:bs[i]?=some 0)(hd1:bs[i+1]?=some d)(h0:d≠0):TPr bs (i+2) (xs++[0]):=by
 intro s0 rest hs he
 obtain⟨m,hm,rfl,rfl⟩:=h s0 rest hs he
 rcases str_at he hm with ⟨hlt,hz,h1,_,h2⟩|⟨hlt,hz,h1,_⟩|⟨_,h1,h2⟩
 ·exact⟨m+1,hlt,h2.symm,by rw[pre_succ,hz];rfl⟩
 ·rw[hd] at h1
  have:=bt_nonneg s0 m
  have h3:=Option.some.inj h1
  omega
 ·rw[hd1] at h2;cases h2;exact absurd rfl h0
theorem tp_break{bs:List Nat}{i:Nat}{xs:List Nat}(h:TPr bs i xs)(hd:bs[i]?=some 0)(hd1:bs[i+1]?≠some 255):TSP bs (strN xs):=by
 intro s0 rest hs he
 obtain⟨m,hm,rfl,rfl⟩:=h s0 rest hs he
 rcases str_at he hm with ⟨_,_,_,h1,_⟩|⟨_,hz,h1,_⟩|⟨rfl,_,_⟩
 ·exact absurd h1 hd1
 ·rw[hd] at h1
  have:=bt_nonneg s0 m
  have h3:=Option.some.inj h1
  omega
 ·exact strN_back s0
theorem tp_end{bs:List Nat}{i:Nat}{xs:List Nat}(h:TPr bs i xs)(hd:bs.length≤i∨32≤xs.length):TSP bs (strN xs):=by
 intro s0 rest hs he
 obtain⟨m,hm,rfl,rfl⟩:=h s0 rest hs he
 rcases hd with hd|hd
 ·exfalso
  obtain⟨t,ht⟩:=strB_split s0 m s0.size hm
  rw[he,ht] at hd
  simp at hd
  omega
 ·rw[pre_len] at hd
  have e:m=s0.size:=by omega
  subst e
  exact strN_back s0
end
section
open Go.RowKit Go.Shelf Go.PlainAid Go.Lib
theorem ts_any(x:Value)(bs:List Nat)(w:World)(hx:RowB w x bs)(hl:bs.length≤140737488355328) :
  Calls prog 139 #[x] w fun e w'=>∃xs,e=.returned (.string (strN xs))∧xs.length≤32∧TSP bs (strN xs)∧G w w':=by
 obtain⟨i0,hi,hz0,hz1,hz2⟩:=info_parts info_u8
 obtain⟨p,cap,rfl,hcap,hc⟩:=hx
 have HC:Hid _:=hc
 clear hc
 go_enter func139,ntmps139
 go_wp2
 go_loopw [3,4] (fun y k W=>∃(i:Nat) (xs:List Nat),i≤bs.length∧k=.int .i64 i∧xs.length≤32∧TPr bs i xs∧Bw w W y xs) (fun _ k _=>bs.length-(RowKit.intOf k).toNat)
 case atStart=>exact⟨0,[],Nat.zero_le _,rfl,by simp,tp_start bs,Bw.nil w w (G.refl w)⟩
 case round=>
  obtain⟨i,xs,hi',rfl,hx32,hp,hB⟩:=hrel
  have hsz:=hB.g.size
  have HB:Hid (Bw w wr u3 xs):=hB
  have HP:Hid _:=hp
  obtain⟨q3,c3,e3,_,_⟩:=hB.row
  clear hB hp
  by_cases hlt:i<bs.length
  ·have hii:(i:Int)<(bs.length:Int):=by omega
   by_cases h32:xs.length<32
   ·have h32i:(xs.length:Int)<32:=by omega
    obtain⟨d,hd⟩:∃d,bs[i]?=some d:=⟨_,List.getElem?_eq_getElem hlt⟩
    obtain⟨g,o,rfl,hcell⟩:=HC.out i d hd
    have hc1:wr.cell? ⟨g,o+i,none⟩=some (bv d):=(HB.out.g.cell (cell_ltE hcell)).trans hcell
    by_cases hd0:d=0
    ·subst hd0
     by_cases hl1:i+1<bs.length
     ·have hl1i:((i:Int)+1==(bs.length:Int))=false:=by simp;omega
      have hl1j:(i:Int)+1<(bs.length:Int):=by omega
      obtain⟨d1,hd1⟩:∃d,bs[i+1]?=some d:=⟨_,List.getElem?_eq_getElem hl1⟩
      obtain⟨g',o',hpp,hcell1⟩:=HC.out (i+1) d1 hd1
      obtain⟨rfl,rfl⟩:g=g'∧o=o':=by cases hpp;exact⟨rfl,rfl⟩
      have hc2:wr.cell? ⟨g,o+(i+1),none⟩=some (bv d1):=(HB.out.g.cell (cell_ltE hcell1)).trans hcell1
      by_cases hd1z:d1=0
      ·subst hd1z
       have HTT:Hid (TSP bs (strN xs)):=tp_break HP.out hd (by rw[hd1];simp)
       subst e3
       clear hcell hcell1
       have hcv:∀W,G wr W→(convert 33 9 _).run prog W=.ok (.string (strN xs)) W:=fun W g=>row_str (HB.out.row.G g)
       have hcv0:=hcv wr (G.refl wr)
       have HT:Hid (TSP bs (strN xs)):=HTT.out
       have HG:Hid (G w wr):=HB.out.g
       clear HB hcv
       go_wp2
       go_ret
       exact⟨xs,rfl,hx32,HT.out,HG.out⟩
      ·have HPP:Hid _:=tp_zero HP.out hd hd1 hd1z
       have hd1n:((d1:Int)==0)=false:=by simp;omega
       subst e3
       clear hcell hcell1
       go_wp2_with (at_builtin;refine wpList_append_own _ rfl _ _ 33 rfl w.heap.size 5 i0 (.int .u8 0) 1 1 underlying33 hi hz0 hz1 hz2 rfl (by decide) _ _ _ rfl (World.ownsRow.alloc HB.out.own _) ⟨wr.heap.size,0,none⟩ 1 1 [bv 0] rfl ?c0 ?c1 ?c2 ?c3 ?c4 ?c5 ?_)
       case c1=>
        intro j u hj
        match j,hj with
        | 0,hj=>simp at hj;subst hj;(first|(simp;done)|(simp[Addr.add];done))
       case c2=>first|rfl|(intro u hu;simp at hu;subst hu;rfl)
       case c3=>unfold maxLen;(first|omega|(simp;omega))
       case c4=>(first|omega|(simp;omega))
       case c5=>(first|omega|(simp;omega))
       intro x2 w2 hown hgrow _
       have HB2:Hid (Bw w w2 x2 (xs++[0])):=(HB.out.keep ((G.refl _).alloc _)).app [0] 1 rfl (by simpa using hown) hgrow
       clear hown hgrow HB
       go_wp2
       go_roundw
       case rel=>exact⟨i+2,xs++[0],by omega,by go_num,by simp;omega,HPP.out,HB2.out⟩
       case measure=>simp[RowKit.intOf];omega
     ·have HTT:Hid (TSP bs (strN xs)):=tp_break HP.out hd (by rw[List.getElem?_eq_none (by omega)];simp)
      have hl1i:(i:Int)+1=(bs.length:Int):=by omega
      subst e3
      clear hcell
      have hcv:∀W,G wr W→(convert 33 9 _).run prog W=.ok (.string (strN xs)) W:=fun W g=>row_str (HB.out.row.G g)
      have hcv0:=hcv wr (G.refl wr)
      have HT:Hid (TSP bs (strN xs)):=HTT.out
      have HG:Hid (G w wr):=HB.out.g
      clear HB hcv
      go_wp2
      go_ret
      exact⟨xs,rfl,hx32,HT.out,HG.out⟩
    ·have HPP:Hid _:=tp_other HP.out hd hd0
     have hd0n:((d:Int)==0)=false:=by simp;omega
     subst e3
     clear hcell
     go_wp2_with (at_builtin;refine wpList_append_own _ rfl _ _ 33 rfl w.heap.size 5 i0 (.int .u8 0) 1 1 underlying33 hi hz0 hz1 hz2 rfl (by decide) _ _ _ rfl (World.ownsRow.alloc HB.out.own _) ⟨wr.heap.size,0,none⟩ 1 1 [bv d] rfl ?c0 ?c1 ?c2 ?c3 ?c4 ?c5 ?_)
     case c1=>
      intro j u hj
      match j,hj with
      | 0,hj=>simp at hj;subst hj;(first|(simp;done)|(simp[Addr.add];done))
     case c2=>first|rfl|(intro u hu;simp at hu;subst hu;rfl)
     case c3=>unfold maxLen;(first|omega|(simp;omega))
     case c4=>(first|omega|(simp;omega))
     case c5=>(first|omega|(simp;omega))
     intro x2 w2 hown hgrow _
     have HB2:Hid (Bw w w2 x2 (xs++[d])):=(HB.out.keep ((G.refl _).alloc _)).app [d] 1 rfl (by simpa using hown) hgrow
     clear hown hgrow HB
     go_wp2
     go_roundw
     case rel=>exact⟨i+1,xs++[d],by omega,by go_num,by simp;omega,HPP.out,HB2.out⟩
     case measure=>simp[RowKit.intOf];omega
   ·have h32i:¬(xs.length:Int)<32:=by omega
    subst e3
    have hcv:∀W,G wr W→(convert 33 9 _).run prog W=.ok (.string (strN xs)) W:=fun W g=>row_str (HB.out.row.G g)
    have hcv0:=hcv wr (G.refl wr)
    have HT:Hid (TSP bs (strN xs)):=tp_end HP.out (.inr (by omega))
    have HG:Hid (G w wr):=HB.out.g
    clear HB hcv
    go_wp2
    go_ret
    exact⟨xs,rfl,hx32,HT.out,HG.out⟩
  ·have hii:¬(i:Int)<(bs.length:Int):=by omega
   subst e3
   have hcv:∀W,G wr W→(convert 33 9 _).run prog W=.ok (.string (strN xs)) W:=fun W g=>row_str (HB.out.row.G g)
   have hcv0:=hcv wr (G.refl wr)
   have HT:Hid (TSP bs (strN xs)):=tp_end HP.out (.inl (by omega))
   have HG:Hid (G w wr):=HB.out.g
   clear HB hcv
   go_wp2
   go_ret
   exact⟨xs,rfl,hx32,HT.out,HG.out⟩
end
section
open Go.RowKit Go.Shelf Go.PlainAid Go.Lib
theorem gbo_yes(x:Value)(ts:List Nat)(w:World)(hx:RowB w x ts)(hl:ts.length≤140737488355328)(h:ts[0]?=some 1):Calls prog 138 #[x] w fun e w'=>e=.returned (V 1 1 0 E0)∧G w w':=by
 obtain⟨p,cap,rfl,hcap,hc⟩:=hx
 obtain⟨g,o,rfl,hcell⟩:=hc 0 1 h
 rw[Nat.add_zero] at hcell
 have hlt:(0:Int)<(ts.length:Int):=by have:=(List.getElem?_eq_some_iff.1 h).1;omega
 have hz:g<w.heap.size:=cell_ltE hcell
 clear hc h
 go_enter func138,ntmps138
 go_wp2
 exact bodyPost_ret (v:=V 1 1 0 E0) (by simp[results,results138,go_sem]) rfl ⟨rfl,by repeat(first|exact G.refl _|assumption|refine G.alloc ?_ _|refine G.drew ?_|refine G.setCell ?_ (by simp) _|refine G.trans ?_ (by assumption))⟩
theorem gbo_no0(p:Option Addr)(cap:Nat)(w:World):Calls prog 138 #[.slice p 0 cap] w fun e w'=>e=.returned (V 1 0 0 E0)∧G w w':=by
 go_enter func138,ntmps138
 go_wp2
 exact bodyPost_ret (v:=V 1 0 0 E0) (by simp[results,results138,go_sem]) rfl ⟨rfl,by repeat(first|exact G.refl _|assumption|refine G.alloc ?_ _|refine G.drew ?_|refine G.setCell ?_ (by simp) _|refine G.trans ?_ (by assumption))⟩
theorem gbo_no1(x:Value)(ts:List Nat)(w:World)(hx:RowB w x ts)(hl:ts.length≤140737488355328)(d:Nat)(h:ts[0]?=some d)(hd:d≠1):Calls prog 138 #[x] w fun e w'=>e=.returned (V 1 0 0 E0)∧G w w':=by
 obtain⟨p,cap,rfl,hcap,hc⟩:=hx
 obtain⟨g,o,rfl,hcell⟩:=hc 0 d h
 rw[Nat.add_zero] at hcell
 have hlt:(0:Int)<(ts.length:Int):=by have:=(List.getElem?_eq_some_iff.1 h).1;omega
 have hz:g<w.heap.size:=cell_ltE hcell
 have hdn:((d:Int)==1)=false:=by simp;omega
 clear hc h hd
 go_enter func138,ntmps138
 go_wp2
 exact bodyPost_ret (v:=V 1 0 0 E0) (by simp[results,results138,go_sem]) rfl ⟨rfl,by repeat(first|exact G.refl _|assumption|refine G.alloc ?_ _|refine G.drew ?_|refine G.setCell ?_ (by simp) _|refine G.trans ?_ (by assumption))⟩
theorem gbo_any(x:Value)(ts:List Nat)(w:World)(hx:RowB w x ts)(hl:ts.length≤140737488355328):Calls prog 138 #[x] w fun e w'=>e=.returned (V 1 (if ts[0]?=some 1 then 1 else 0) 0 E0)∧G w w':=by
 cases h:ts[0]? with
 | none=>
  obtain⟨p,cap,rfl,hcap,hc⟩:=hx
  have e:ts.length=0:=by have:=List.getElem?_eq_none_iff.1 h;omega
  rw[e];exact gbo_no0 p cap w
 | some d=>
  by_cases hd:d=1
  ·subst hd;exact gbo_yes x ts w hx hl h
  ·rw[if_neg (by simp;exact hd)];exact gbo_no1 x ts w hx hl d h hd
theorem row_tail{w:World}{g o n cap:Nat}{ts:List Nat}(h:RowB w (.slice (some ⟨g,o,none⟩) n cap) ts)(hn:0<ts.length)(_hc1:¬cap=1):RowB w (.slice (some ⟨g,o+1,none⟩) (n-1) (cap-1)) (ts.drop 1):=by
 obtain⟨p,cap',he,hcap,hc⟩:=h
 cases he
 exact row_from hcap hn fun i d hi=>by
  obtain⟨g',o',h1,h2⟩:=hc i d hi
  cases h1;exact h2
theorem row_tail1{w:World}{g o n:Nat}{ts:List Nat}(h:RowB w (.slice (some ⟨g,o,none⟩) n 1) ts)(hn:0<ts.length):n=1∧RowB w (.slice (some ⟨g,o,none⟩) 0 0) (ts.drop 1):=by
 obtain⟨p,cap',he,hcap,hc⟩:=h
 cases he
 refine⟨by omega,?_⟩
 rw[List.drop_of_length_le (by omega)]
 exact⟨_,0,rfl,Nat.le_refl _,fun i d h=>by simp at h⟩
def GNP(bs:List Nat)(k a b:Int)(s:ByteArray):Prop:=
 (∀a0 rest,R64 a0→bs=(encW a0++[0])++rest→k=2∧a=a0∧b=0∧s=E0)∧(∀a0 b0 rest,R64 a0→R64 b0→bs=((encW a0++[1])++encW b0)++rest→k=3∧a=a0∧b=b0∧s=E0)
theorem gnp_whole{bs ts:List Nat}{n:Int}(h:TWP bs n ts)(h1:ts[0]?≠some 1):GNP bs 2 n 0 E0:=by
 refine⟨fun a0 rest hr he=>?_,fun a0 b0 rest hr _ he=>?_⟩
 ·obtain⟨rfl,_⟩:=h a0 ([0]++rest) hr (by rw[he,List.append_assoc])
  exact⟨rfl,rfl,rfl,rfl⟩
 ·obtain⟨_,rfl⟩:=h a0 ([1]++(encW b0++rest)) hr (by rw[he];simp)
  exact absurd rfl h1
theorem gnp_pair{bs ts us:List Nat}{n m:Int}(h:TWP bs n ts)(h1:ts[0]?=some 1)(h2:TWP (ts.drop 1) m us):GNP bs 3 n m E0:=by
 refine⟨fun a0 rest hr he=>?_,fun a0 b0 rest hr hr2 he=>?_⟩
 ·obtain⟨_,rfl⟩:=h a0 ([0]++rest) hr (by rw[he,List.append_assoc])
  cases h1
 ·obtain⟨rfl,rfl⟩:=h a0 ([1]++(encW b0++rest)) hr (by rw[he];simp)
  obtain⟨rfl,_⟩:=h2 b0 rest hr2 rfl
  exact⟨rfl,rfl,rfl,rfl⟩
def GNA(bs:List Nat)(w:World)(e:Ending)(w':World):Prop:=∃(k a b:Int),e=.returned (V k a b E0)∧R64 a∧R64 b∧GNP bs k a b E0∧G w w'
theorem gn_any(x:Value)(bs:List Nat)(w:World)(hx:RowB w x bs)(hb:∀d∈bs,d<256)(hl:bs.length≤140737488355328):Calls prog 141 #[x] w (GNA bs w):=by
 have H1:Hid (∀W,G w W→Calls prog 140 #[x] W (TWA bs W)):=fun W g=>tw_any x bs W (hx.G g) hb hl
 clear hx
 go_enter func141,ntmps141
 go_wp2_with fail
 refine(H1.out _ ((G.refl w).alloc _)).mono ?_
 rintro e w1 ⟨n,t,ts,rfl,hn,hrow,htw,hts,htl,hb1⟩
 have hrow1:=hrow.G hb1
 have hz1:w.heap.size<w1.heap.size:=by have:=hb1.size;simp at this;omega
 have hb1':=hb1
 have hc1:∀o,w1.cell? {block:=w.heap.size,off:=o}=[I 0,I 0,I 0,.string E0][o]?:=G.cells hb1 (by simp) (by simp)
 have hf1:∀o,w1.frozen? {block:=w.heap.size,off:=o}=false:=G.frozens hb1 (by simp) (by simp)
 have HG:Hid (G w w1):=((G.refl w).alloc _).trans hb1
 have HTW:Hid _:=htw
 clear hrow hb1 hb1' htw H1
 by_cases h1:ts[0]?=some 1
 ·have hpos:=(List.getElem?_eq_some_iff.1 h1).1
  have hposi:(0:Int)<(ts.length:Int):=by omega
  have hrow2:=hrow1
  obtain⟨p,cap,rfl,hcap,hc⟩:=hrow1
  obtain⟨g,o,rfl,hcell⟩:=hc 0 1 h1
  rw[Nat.add_zero] at hcell
  clear hc
  by_cases hcp:cap=1
  ·subst hcp
   obtain⟨hl1,hrt⟩:=row_tail1 hrow2 hpos
   have H2:Hid (∀W,G w1 W→Calls prog 140 #[.slice (some ⟨g,o,none⟩) 0 0] W (TWA (ts.drop 1) W)):=fun W g=>tw_any _ _ W (hrt.G g) (fun d hd=>hts d (List.mem_of_mem_drop hd)) (by rw[List.length_drop];omega)
   have HH1:Hid _:=h1
   rw[hl1]
   clear hrow2 hrt hcap h1
   go_wp2_with fail
   refine(H2.out _ (by repeat(first|exact G.refl _|refine G.drew ?_))).mono ?_
   rintro e w2 ⟨m,t2,us,rfl,hm,_,htw2,_,_,hb2⟩
   have hz2:w1.heap.size≤w2.heap.size:=hb2.size
   have hc2:∀o,w2.cell? {block:=w.heap.size,off:=o}=[I 0,I 0,I 0,.string E0][o]?:=G.cells hb2 hc1 hz1
   have hf2:∀o,w2.frozen? {block:=w.heap.size,off:=o}=false:=G.frozens hb2 hf1 hz1
   have HP:Hid (GNP bs 3 n m E0):=gnp_pair HTW.out HH1.out htw2
   have HG2:Hid (G w w2):=HG.out.trans hb2
   clear hb2 htw2 HG H2
   go_wp2
   exact bodyPost_ret (v:=V 3 n m E0) (by simp[results,results141,go_sem,hc2]) rfl ⟨3,n,m,rfl,hn,hm,HP.out,by repeat(first|exact G.refl _|assumption|exact HG2.out|refine G.alloc ?_ _|refine G.drew ?_|refine G.setCell ?_ (by simp) _|refine G.trans ?_ (by assumption))⟩
  ·have hrt:=row_tail hrow2 hpos hcp
   have H2:Hid (∀W,G w1 W→Calls prog 140 #[.slice (some ⟨g,o+1,none⟩) (ts.length-1) (cap-1)] W (TWA (ts.drop 1) W)):=fun W g=>tw_any _ _ W (hrt.G g) (fun d hd=>hts d (List.mem_of_mem_drop hd)) (by rw[List.length_drop];omega)
   have HH1:Hid _:=h1
   clear hrow2 hrt h1
   go_wp2_with fail
   refine(H2.out _ (by repeat(first|exact G.refl _|refine G.drew ?_))).mono ?_
   rintro e w2 ⟨m,t2,us,rfl,hm,_,htw2,_,_,hb2⟩
   have hz2:w1.heap.size≤w2.heap.size:=hb2.size
   have hc2:∀o,w2.cell? {block:=w.heap.size,off:=o}=[I 0,I 0,I 0,.string E0][o]?:=G.cells hb2 hc1 hz1
   have hf2:∀o,w2.frozen? {block:=w.heap.size,off:=o}=false:=G.frozens hb2 hf1 hz1
   have HP:Hid (GNP bs 3 n m E0):=gnp_pair HTW.out HH1.out htw2
   have HG2:Hid (G w w2):=HG.out.trans hb2
   clear hb2 htw2 HG H2
   go_wp2
   exact bodyPost_ret (v:=V 3 n m E0) (by simp[results,results141,go_sem,hc2]) rfl ⟨3,n,m,rfl,hn,hm,HP.out,by repeat(first|exact G.refl _|assumption|exact HG2.out|refine G.alloc ?_ _|refine G.drew ?_|refine G.setCell ?_ (by simp) _|refine G.trans ?_ (by assumption))⟩
 ·have HH1:Hid _:=h1
  have HP:Hid (GNP bs 2 n 0 E0):=gnp_whole HTW.out HH1.out
  cases h0:ts[0]? with
  | none=>
   obtain⟨p,cap,rfl,hcap,hc⟩:=hrow1
   have e:ts.length=0:=by have:=List.getElem?_eq_none_iff.1 h0;omega
   rw[e]
   clear hc hcap h0 h1
   go_wp2
   exact bodyPost_ret (v:=V 2 n 0 E0) (by simp[results,results141,go_sem,hc1]) rfl ⟨2,n,0,rfl,hn,by unfold R64;omega,HP.out,by repeat(first|exact G.refl _|assumption|exact HG.out|refine G.alloc ?_ _|refine G.drew ?_|refine G.setCell ?_ (by simp) _|refine G.trans ?_ (by assumption))⟩
  | some d=>
   obtain⟨p,cap,rfl,hcap,hc⟩:=hrow1
   obtain⟨g,o,rfl,hcell⟩:=hc 0 d h0
   rw[Nat.add_zero] at hcell
   have hpos:=(List.getElem?_eq_some_iff.1 h0).1
   have hposi:(0:Int)<(ts.length:Int):=by omega
   have hd1:d≠1:=fun e=>h1 (by rw[h0,e])
   have hdn:((d:Int)==1)=false:=by simp;omega
   clear hc h0 h1 hd1
   go_wp2
   exact bodyPost_ret (v:=V 2 n 0 E0) (by simp[results,results141,go_sem,hc1]) rfl ⟨2,n,0,rfl,hn,by unfold R64;omega,HP.out,by repeat(first|exact G.refl _|assumption|exact HG.out|refine G.alloc ?_ _|refine G.drew ?_|refine G.setCell ?_ (by simp) _|refine G.trans ?_ (by assumption))⟩
end
end Go.Proofs.YthmdjhfbhbheeaaGreatDoor
