import Derived.Shelf.Strconv.ErrVarParseInt
import Derived.Shelf.Small.Wraps
import Derived.Lib.ConvBytes
import Derived.Test.YthmdjhfbhbheeaaGreatDoorTxt2
import Derived.Test.YthmdjhfbhbheeaaGreatDoorShB7
namespace Go.Proofs.YthmdjhfbhbheeaaGreatDoor
open Go.Proofs.Tryz
set_option maxHeartbeats 4000000
set_option maxRecDepth 100000
section
open Go.RowKit Go.Lib Go.Shelf
structure Env(w:World):Prop where
 t:Tabs w
 p:TabIs prog w "internal/strconv.uint64pow10" .u64 pow10Tab
 s:∃tp p,w.var? prog "strconv.ErrSyntax"=some #[.iface tp p]
 r:∃tp p,w.var? prog "strconv.ErrRange"=some #[.iface tp p]
 e:w.var? prog "trellis/value.escapes"=some #[.int .u8 92,.int .u8 92,.int .u8 39,.int .u8 39,.int .u8 10,.int .u8 110,.int .u8 9,.int .u8 116,.int .u8 13,.int .u8 114]
theorem zOi{w w':World}(g:G w w'){n:String}{cs:Array Value}(h:w.var? prog n=some cs):w'.var? prog n=some cs:=by
 unfold World.var? at h⊢
 cases hg:prog.globalNamed n with
 | none=>rw[hg] at h;simp at h
 | some k=>
  rw[hg] at h;simp only[Option.bind_some] at h⊢
  have hlt:k<w.heap.size:=Nat.lt_of_not_le fun hle=>by
   rw[Array.getElem?_eq_none hle] at h;simp at h
  rw[g.block k hlt];exact h
theorem Env.G{w w':World}(h:Env w)(g:G w w'):Env w':=
 ⟨h.t.G g,zOi g h.p,h.s.imp fun _=>Exists.imp fun _=>zOi g,h.r.imp fun _=>Exists.imp fun _=>zOi g,zOi g h.e⟩
theorem G.grow(w:World)(k:Nat)(os:Array Obj):G w (Go.Sort.grow (w.drewN k) os):=⟨rfl,rfl,rfl,by simp[Go.Sort.grow],fun j hj=>by simp[Go.Sort.grow,Array.getElem?_append,hj]⟩
def strU(l:List UInt8):ByteArray:=⟨l.toArray⟩
theorem zAK(l:List UInt8):(strU l).data.toList=l:=by simp[strU]
theorem zF6(n:Int)(h:R64 n)(w:World)(hE:Env w):CG 249 #[.int .i64 n] w (.string (strU (itoa n))):=by
 have HF:Hid (Calls prog 250 #[.int .i64 n,.int .i64 10] w fun e w'=>e=.returned (.string ⟨(itoa n).toArray⟩)∧∃k os,w'=Go.Sort.grow (w.drewN k) os):=Any.strconv_FormatInt_10 Tryz.laysFormatInt n h.1 h.2 w hE.p;clear hE
 go_enter func249,ntmps249
 go_wp2_with fail
 refine HF.out.mono ?_;rintro e w1 ⟨rfl,k,os,rfl⟩
 go_wp2
 go_ret;exact⟨rfl,G.grow w k os⟩
theorem zGo(s:ByteArray)(hs:s.size≤140737488355328)(w:World)(hE:Env w):CG 133 #[.string s] w (.int .i64 (whO s.data.toList)):=by
 have HP:Hid (Calls prog 163 #[.string s,.int .i64 10,.int .i64 64] w fun e w'=>∃x,e=.returned (.tuple #[.int .i64 (whO s.data.toList),x])∧G w w'):=by
  unfold whO
  cases h:parseIntB 64 s.data.toList with
  | ok n=>
   refine(Any.strconv_ParseInt_10_at64_ok Tryz.laysParseInt s (by omega) n h w).mono ?_;rintro e w' ⟨rfl,hw|⟨t,hw⟩⟩
   ·exact⟨_,rfl,by rw[hw];exact G.refl _⟩
   ·refine⟨_,rfl,?_⟩
    rw[hw];exact⟨rfl,rfl,rfl,by rw[Lib.bytesWorld_size];omega,fun j hj=>Lib.bytesWorld_at_old w _ t j hj⟩
  | «syntax»=>
   obtain⟨tp,p,hv⟩:=hE.s;refine(Any.strconv_ParseInt_10_at64_syntax_var Tryz.laysParseInt s (by omega) h tp p w hv).mono ?_;rintro e w' ⟨N,rfl,_,_,hb⟩;exact⟨_,rfl,hb⟩
  | range=>
   obtain⟨tp,p,hv⟩:=hE.r;refine(Any.strconv_ParseInt_10_at64_range_var Tryz.laysParseInt s (by omega) h tp p w hv).mono ?_;rintro e w' ⟨N,rfl,_,_,hb⟩;exact⟨_,rfl,hb⟩
 clear hE;generalize whO s.data.toList=n at HP
 go_enter func133,ntmps133
 go_wp2_with fail
 refine HP.out.mono ?_;rintro e w1 ⟨x,rfl,hb⟩;have HB:Hid _:=hb;clear hb
 go_wp2
 go_ret;exact⟨rfl,HB.out⟩
theorem zEN(s:ByteArray)(hs:s.size≤140737488355328)(w:World):Calls prog 132 #[.string s] w fun e w'=>e=.returned (.string (strU (innr s.data.toList)))∧w'=w:=by
 have hsz:s.data.toList.length=s.size:=by rw[Array.length_toList];rfl
 by_cases h:s.size<2
 ·have e:innr s.data.toList=[]:=by
   unfold innr;apply List.eq_nil_of_length_eq_zero;rw[List.length_dropLast,List.length_drop];omega
  rw[e]
  have hI:((s.size:Nat):Int)<2:=by omega
  go_enter func132,ntmps132
  go_wp2
  go_ret;exact⟨rfl,rfl⟩
 ·have e:strU (innr s.data.toList)=s.extract 1 (s.size-1):=by
   unfold strU innr;apply ByteArray.ext;rw[ByteArray.data_extract];apply Array.ext';rw[List.toList_toArray,Array.toList_extract,List.extract_eq_take_drop,List.dropLast_eq_take,List.length_drop,hsz]
  rw[e]
  have hI:¬((s.size:Nat):Int)<2:=by omega
  go_enter func132,ntmps132
  go_wp2
  go_ret;exact⟨rfl,rfl⟩
end
section
open Go.RowKit Go.Lib Go.Shelf
theorem hide{p:Prop}(h:p):Hid p:=h
theorem zOr(a b:List UInt8):strU a++strU b=strU (a++b):=by
 have:(strU a++strU b).data=(strU (a++b)).data:=by simp[strU]
 cases h1:strU a++strU b with
 | mk d=>rw[h1] at this;cases h2:strU (a++b)with|mk e=>rw[h2] at this;simpa using this
theorem zCY(a:List UInt8):(strU a).size=a.length:=by simp[strU,ByteArray.size]
theorem zDm(a b:List UInt8)(h:a.length+b.length≤9223372036854775807)(W:World):(Op.stringOp .add (strU a) (strU b)).run prog W=.ok (.string (strU (a++b))) W:=by
 rw[run_string_add_sum W _ _ (by rw[zCY,zCY];exact h),zOr]
theorem zRr(w:World)(x:UInt8)(z:Int)(hz:z=(x.toNat:Int)):(convert 33 9 (.slice (some ⟨w.heap.size,0,none⟩) 1 1)).run prog (w.alloc (.cells #[.int .u8 z] 5))=.ok (.string (strU [x])) (w.alloc (.cells #[.int .u8 z] 5)):=by
 subst hz;refine run_convert_bytes_back _ 33 9 5 ⟨w.heap.size,0,none⟩ 1 [x] underlying33 underlying5 underlying9 (fun j hj=>?_)
 match j,hj with
 | 0,_=>simp[Addr.add]
theorem zNM(w:World)(x y:UInt8):(convert 33 9 (.slice (some ⟨w.heap.size,0,none⟩) 2 2)).run prog (w.alloc (.cells #[.int .u8 x.toNat,.int .u8 y.toNat] 5)).drew=.ok (.string (strU [x,y])) (w.alloc (.cells #[.int .u8 x.toNat,.int .u8 y.toNat] 5)).drew:=by
 refine run_convert_bytes_back _ 33 9 5 ⟨w.heap.size,0,none⟩ 2 [x,y] underlying33 underlying5 underlying9 (fun j hj=>?_)
 match j,hj with
 | 0,_=>simp[Addr.add]
 | 1,_=>simp[Addr.add]
theorem zP8(u:Nat)(l:List UInt8)(_:u≠0):decDigits u++l=(if u/10=0 then [] else decDigits (u/10))++(UInt8.ofNat (48+u%10)::l):=by
 rw[decDigits]
 by_cases h1:u<10
 ·rw[dif_pos h1,if_pos (by omega),Nat.mod_eq_of_lt h1];rfl
 ·rw[dif_neg h1,if_neg (by omega),List.append_assoc];rfl
theorem zCd(n:Int)(h:R64 n)(w:World):CG 99 #[.int .i64 n] w (.string (strU (itoa n))):=by
 unfold R64 at h;obtain⟨h1,h2⟩:=h
 by_cases h0:n=0
 ·subst h0
  go_enter func99,ntmps99
  go_wp2
  go_ret;exact⟨by rw[show itoa 0=[48] by unfold itoa;rw[if_neg (by omega),show(0:Int).toNat=0 from rfl,decDigits];rfl];rfl,G.refl _⟩
 ·have HB:=hide (zDI n h1 h2 w)
  have hlo:lo n = -((n.natAbs:Nat):Int):=by unfold lo;split<;>omega
  rw[hlo] at HB
  have HI:Hid (itoa n=if n<0 then 45::decDigits n.natAbs else decDigits n.natAbs):=by
   unfold Hid itoa
   split
   ·rfl
   ·rw[show n.toNat=n.natAbs by omega]
  have hN:n.natAbs≤9223372036854775808:=by omega
  have hN1:1≤n.natAbs:=by omega
  generalize n.natAbs=N at HB HI hN hN1;clear hlo
  go_enter func99,ntmps99
  go_wp2_with fail
  refine HB.out.mono ?_;rintro e' w1 ⟨rfl,rfl⟩;clear HB
  go_wp2_with fail
  go_loopw [3,4] (fun m s W=>∃(u:Nat) (l:List UInt8),u+2*l.length≤N+1∧(1≤u→u+2*l.length≤N)∧m=.int .i64 (-(u:Int))∧s=.string (strU l)∧(if u=0 then [] else decDigits u)++l=decDigits N∧G w1 W) (fun m _ _=>(RowKit.intOf m).natAbs)
  case atStart=>exact⟨N,[],by simp,by simp,rfl,rfl,by rw[if_neg (by omega),List.append_nil],G.refl _⟩
  case round=>
   obtain⟨u,l,hu,hu2,rfl,rfl,hd,hg⟩:=hrel;have HD:=hide hd;have HG:=hide hg;clear hd hg
   by_cases hz:u=0
   ·subst hz
    have hl:l=decDigits N:=by have:=HD.out;rw[if_pos rfl] at this;exact this
    have hadd:∀W,(Op.stringOp .add {data:=#[45]} (strU l)).run prog W=.ok (.string (strU (45::l))) W:=zDm [45] l (by simp;omega)
    by_cases hn:n<0
    ·have HI2:Hid (itoa n=45::l):=by unfold Hid;rw[HI.out,if_pos hn,hl]
     clear HI HD hl
     go_wp2
     go_ret;exact⟨by rw[HI2.out];rfl,HG.out⟩
    ·have HI2:Hid (itoa n=l):=by unfold Hid;rw[HI.out,if_neg hn,hl]
     clear HI HD hl hadd
     go_wp2
     go_ret;exact⟨by rw[HI2.out];rfl,HG.out⟩
   ·have hu3:=hu2 (by omega)
    have hune:¬(-(u:Int))=0:=by omega
    have hrem:(-(u:Int)).tmod 10 = -((u%10:Nat):Int):=by rw[Int.neg_tmod,Int.tmod_eq_emod_of_nonneg (by omega)];omega
    have hquo:(-(u:Int)).tdiv 10 = -((u/10:Nat):Int):=by rw[Int.neg_tdiv,Int.tdiv_eq_ediv_of_nonneg (by omega)];omega
    have hcv:=zRr wr (UInt8.ofNat (48+u%10)) (48+(u:Int)%10) (by rw[zDi _ (by omega)];omega);have hadd:=zDm [UInt8.ofNat (48+u%10)] l (by simp;omega)
    have HDN:Hid ((if u/10=0 then [] else decDigits (u/10))++(UInt8.ofNat (48+u%10)::l)=decDigits N):=by
     have:=HD.out;rw[if_neg hz,zP8 u l hz] at this;exact this
    generalize UInt8.ofNat (48+u%10)=dg at hcv hadd HDN
    go_wp2
    go_roundw
    case rel=>exact⟨u/10,dg::l,by simp;omega,fun _=>by simp;omega,by go_num,rfl,HDN.out,G.alloc HG.out _⟩
    case measure=>simp[RowKit.intOf];omega
theorem zT1:∀d:Fin 16,(({data:=#[48,49,50,51,52,53,54,55,56,57,97,98,99,100,101,102]}:ByteArray)[d.val]'(by have:=d.2;exact this)).toNat=(hx d.val).toNat:=by decide
theorem zRp(z:Int)(d:Nat)(hz:z=d)(hd:d<16){hb:z.toNat<({data:=#[48,49,50,51,52,53,54,55,56,57,97,98,99,100,101,102]}:ByteArray).size}:(({data:=#[48,49,50,51,52,53,54,55,56,57,97,98,99,100,101,102]}:ByteArray)[z.toNat]'hb).toNat=(hx d).toNat:=by
 subst hz;simp only[Int.toNat_natCast];exact zT1 ⟨d,hd⟩
theorem zSc(c:Nat)(hc:c<32)(h92:((c:Int)==92)=false)(h39:((c:Int)==39)=false)(h10:((c:Int)==10)=false)(h9:((c:Int)==9)=false)(h13:((c:Int)==13)=false)(w:World):CG 100 #[.int .u8 c] w (.string (strU [92,120,hx (c/16),hx (c%16)])):=by
 have hcI:(c:Int)<32:=by omega
 have hcv:=zNM w (hx (c/16)) (hx (c%16));have hadd:∀W,(Op.stringOp .add {data:=#[92,120]} (strU [hx (c/16),hx (c%16)])).run prog W=.ok (.string (strU [92,120,hx (c/16),hx (c%16)])) W:=zDm [92,120] _ (by simp)
 go_enter func100,ntmps100
 go_wp2_with fail
 refine wp_region_noPanic ?_;refine wp_region_held_drew (S:=(fun _=>True)) (by kernel_rfl) (trivial) (fun hHeld=>?_);refine wpAnyH_take (i:=0) (v:=?_) rfl (by kernel_rfl) (by kernel_rfl) (by kernel_rfl) (fun _ _ _ h=>h) (Or.inl ⟨by rfl,?_⟩) hHeld ?_;rotate_left 1
 ·(intro w hSw;(try dsimp only at hSw);go_simp;try with_reducible rfl)
 try simp only[Act.put,List.getElem_toArray,List.getElem_cons_zero,List.setIfInBounds_toArray,List.set_cons_zero,List.set_cons_succ]
 refine wpAnyH_take (i:=1) (v:=(.int .u8 ((c/16:Nat):Int))) rfl (by kernel_rfl) (by kernel_rfl) (by kernel_rfl) (fun _ _ _ h=>h) (Or.inl ⟨by rfl,?_⟩) hHeld ?_
 ·(intro w hSw;go_simp;rw[IntKind.wrap_u8];omega)
 try simp only[Act.put,List.getElem_toArray,List.getElem_cons_zero,List.getElem_cons_succ,List.setIfInBounds_toArray,List.set_cons_zero,List.set_cons_succ]
 refine wpAnyH_take (i:=2) (v:=(.int .u8 (hx (c/16)).toNat)) rfl (by kernel_rfl) (by kernel_rfl) (by kernel_rfl) (fun _ _ _ h=>h) (Or.inl ⟨by rfl,?_⟩) hHeld ?_
 ·(intro w hSw;go_simp;rw[dif_pos (by omega)];simp only[Result.andThen_ok];rw[zRp _ (c/16) (by omega) (by omega)])
 try simp only[Act.put,List.getElem_toArray,List.getElem_cons_zero,List.getElem_cons_succ,List.setIfInBounds_toArray,List.set_cons_zero,List.set_cons_succ]
 refine wpAnyH_take (i:=3) (v:=?_) rfl (by kernel_rfl) (by kernel_rfl) (by kernel_rfl) (fun _ _ _ h=>h) (Or.inl ⟨by rfl,?_⟩) hHeld ?_;rotate_left 1
 ·(intro w hSw;(try dsimp only at hSw);go_simp;try with_reducible rfl)
 try simp only[Act.put,List.getElem_toArray,List.getElem_cons_zero,List.getElem_cons_succ,List.setIfInBounds_toArray,List.set_cons_zero,List.set_cons_succ]
 refine wpAnyH_take (i:=4) (v:=(.int .u8 ((c%16:Nat):Int))) rfl (by kernel_rfl) (by kernel_rfl) (by kernel_rfl) (fun _ _ _ h=>h) (Or.inl ⟨by rfl,?_⟩) hHeld ?_
 ·(intro w hSw;go_simp;exact Int.tmod_eq_emod_of_nonneg (by omega))
 try simp only[Act.put,List.getElem_toArray,List.getElem_cons_zero,List.getElem_cons_succ,List.setIfInBounds_toArray,List.set_cons_zero,List.set_cons_succ]
 refine wpAnyH_take (i:=5) (v:=(.int .u8 (hx (c%16)).toNat)) rfl (by kernel_rfl) (by kernel_rfl) (by kernel_rfl) (fun _ _ _ h=>h) (Or.inl ⟨by rfl,?_⟩) hHeld ?_
 ·(intro w hSw;go_simp;rw[dif_pos (by omega)];simp only[Result.andThen_ok];rw[zRp _ (c%16) (by omega) (by omega)])
 try simp only[Act.put,List.getElem_toArray,List.getElem_cons_zero,List.getElem_cons_succ,List.setIfInBounds_toArray,List.set_cons_zero,List.set_cons_succ]
 refine wpAnyH_ready (rs:=[6]) (by kernel_rfl) (by simp) (AllReadyH.cons rfl (fun K hK=>?_) AllReadyH.nil);clear hHeld
 go_simp
 refine hK.out _ _ (trivial) (fun hHeld=>?_);clear hK K
 try simp only[Act.put,List.getElem_toArray,List.getElem_cons_zero,List.getElem_cons_succ,List.setIfInBounds_toArray,List.set_cons_zero,List.set_cons_succ]
 refine wpAnyH_ready (rs:=[7]) (by kernel_rfl) (by simp) (AllReadyH.cons rfl (fun K hK=>?_) AllReadyH.nil);clear hHeld
 go_simp
 refine hK.out _ _ (trivial) (fun hHeld=>?_);clear hK K
 try simp only[Act.put,List.getElem_toArray,List.getElem_cons_zero,List.getElem_cons_succ,List.setIfInBounds_toArray,List.set_cons_zero,List.set_cons_succ]
 refine wpAnyH_take (i:=8) (v:=?_) rfl (by kernel_rfl) (by kernel_rfl) (by kernel_rfl) (fun _ _ _ h=>h) (Or.inl ⟨by rfl,?_⟩) hHeld ?_;rotate_left 1
 ·(intro w hSw;(try dsimp only at hSw);go_simp;try with_reducible rfl)
 try simp only[Act.put,List.getElem_toArray,List.getElem_cons_zero,List.getElem_cons_succ,List.setIfInBounds_toArray,List.set_cons_zero,List.set_cons_succ]
 refine wpAnyH_take (i:=9) (v:=?_) rfl (by kernel_rfl) (by kernel_rfl) (by kernel_rfl) (fun _ _ _ h=>h) (Or.inl ⟨by rfl,?_⟩) hHeld ?_;rotate_left 1
 ·(intro w hSw;(try dsimp only at hSw);go_simp;try with_reducible rfl)
 try simp only[Act.put,List.getElem_toArray,List.getElem_cons_zero,List.getElem_cons_succ,List.setIfInBounds_toArray,List.set_cons_zero,List.set_cons_succ]
 refine wpAnyH_done (by kernel_rfl) ?_ _;refine NoPanic.normal ?_
 go_wp2
 go_ret;exact⟨rfl,((G.refl w).alloc _).drew⟩
theorem zON(w:World):CG 100 #[.int .u8 127] w (.string (strU (esc1 127))):=by
 have hcv:(convert 33 9 (.slice (some ⟨w.heap.size,0,none⟩) 2 2)).run prog (w.alloc (.cells #[.int .u8 55,.int .u8 102] 5)).drew=.ok (.string (strU [55,102])) (w.alloc (.cells #[.int .u8 55,.int .u8 102] 5)).drew:=zNM w 55 102;have hadd:∀W,(Op.stringOp .add {data:=#[92,120]} (strU [55,102])).run prog W=.ok (.string (strU [92,120,55,102])) W:=zDm [92,120] _ (by simp)
 go_enter func100,ntmps100
 go_wp2_with fail
 refine wp_region_noPanic ?_;refine wp_region_held_drew (S:=(fun _=>True)) (by kernel_rfl) (trivial) (fun hHeld=>?_);refine wpAnyH_take (i:=0) (v:=?_) rfl (by kernel_rfl) (by kernel_rfl) (by kernel_rfl) (fun _ _ _ h=>h) (Or.inl ⟨by rfl,?_⟩) hHeld ?_;rotate_left 1
 ·(intro w hSw;(try dsimp only at hSw);go_simp;try with_reducible rfl)
 try simp only[Act.put,List.getElem_toArray,List.getElem_cons_zero,List.setIfInBounds_toArray,List.set_cons_zero,List.set_cons_succ]
 refine wpAnyH_take (i:=1) (v:=(.int .u8 7)) rfl (by kernel_rfl) (by kernel_rfl) (by kernel_rfl) (fun _ _ _ h=>h) (Or.inl ⟨by rfl,?_⟩) hHeld ?_
 ·(intro w hSw;kernel_rfl)
 try simp only[Act.put,List.getElem_toArray,List.getElem_cons_zero,List.getElem_cons_succ,List.setIfInBounds_toArray,List.set_cons_zero,List.set_cons_succ]
 refine wpAnyH_take (i:=2) (v:=(.int .u8 55)) rfl (by kernel_rfl) (by kernel_rfl) (by kernel_rfl) (fun _ _ _ h=>h) (Or.inl ⟨by rfl,?_⟩) hHeld ?_
 ·(intro w hSw;kernel_rfl)
 try simp only[Act.put,List.getElem_toArray,List.getElem_cons_zero,List.getElem_cons_succ,List.setIfInBounds_toArray,List.set_cons_zero,List.set_cons_succ]
 refine wpAnyH_take (i:=3) (v:=?_) rfl (by kernel_rfl) (by kernel_rfl) (by kernel_rfl) (fun _ _ _ h=>h) (Or.inl ⟨by rfl,?_⟩) hHeld ?_;rotate_left 1
 ·(intro w hSw;(try dsimp only at hSw);go_simp;try with_reducible rfl)
 try simp only[Act.put,List.getElem_toArray,List.getElem_cons_zero,List.getElem_cons_succ,List.setIfInBounds_toArray,List.set_cons_zero,List.set_cons_succ]
 refine wpAnyH_take (i:=4) (v:=(.int .u8 15)) rfl (by kernel_rfl) (by kernel_rfl) (by kernel_rfl) (fun _ _ _ h=>h) (Or.inl ⟨by rfl,?_⟩) hHeld ?_
 ·(intro w hSw;kernel_rfl)
 try simp only[Act.put,List.getElem_toArray,List.getElem_cons_zero,List.getElem_cons_succ,List.setIfInBounds_toArray,List.set_cons_zero,List.set_cons_succ]
 refine wpAnyH_take (i:=5) (v:=(.int .u8 102)) rfl (by kernel_rfl) (by kernel_rfl) (by kernel_rfl) (fun _ _ _ h=>h) (Or.inl ⟨by rfl,?_⟩) hHeld ?_
 ·(intro w hSw;kernel_rfl)
 try simp only[Act.put,List.getElem_toArray,List.getElem_cons_zero,List.getElem_cons_succ,List.setIfInBounds_toArray,List.set_cons_zero,List.set_cons_succ]
 refine wpAnyH_ready (rs:=[6]) (by kernel_rfl) (by simp) (AllReadyH.cons rfl (fun K hK=>?_) AllReadyH.nil);clear hHeld
 go_simp
 refine hK.out _ _ (trivial) (fun hHeld=>?_);clear hK K
 try simp only[Act.put,List.getElem_toArray,List.getElem_cons_zero,List.getElem_cons_succ,List.setIfInBounds_toArray,List.set_cons_zero,List.set_cons_succ]
 refine wpAnyH_ready (rs:=[7]) (by kernel_rfl) (by simp) (AllReadyH.cons rfl (fun K hK=>?_) AllReadyH.nil);clear hHeld
 go_simp
 refine hK.out _ _ (trivial) (fun hHeld=>?_);clear hK K
 try simp only[Act.put,List.getElem_toArray,List.getElem_cons_zero,List.getElem_cons_succ,List.setIfInBounds_toArray,List.set_cons_zero,List.set_cons_succ]
 refine wpAnyH_take (i:=8) (v:=?_) rfl (by kernel_rfl) (by kernel_rfl) (by kernel_rfl) (fun _ _ _ h=>h) (Or.inl ⟨by rfl,?_⟩) hHeld ?_;rotate_left 1
 ·(intro w hSw;(try dsimp only at hSw);go_simp;try with_reducible rfl)
 try simp only[Act.put,List.getElem_toArray,List.getElem_cons_zero,List.getElem_cons_succ,List.setIfInBounds_toArray,List.set_cons_zero,List.set_cons_succ]
 refine wpAnyH_take (i:=9) (v:=?_) rfl (by kernel_rfl) (by kernel_rfl) (by kernel_rfl) (fun _ _ _ h=>h) (Or.inl ⟨by rfl,?_⟩) hHeld ?_;rotate_left 1
 ·(intro w hSw;(try dsimp only at hSw);go_simp;try with_reducible rfl)
 try simp only[Act.put,List.getElem_toArray,List.getElem_cons_zero,List.getElem_cons_succ,List.setIfInBounds_toArray,List.set_cons_zero,List.set_cons_succ]
 refine wpAnyH_done (by kernel_rfl) ?_ _;refine NoPanic.normal ?_
 go_wp2
 go_ret;exact⟨rfl,((G.refl w).alloc _).drew⟩
theorem zTW(c:Nat)(hc:c<32)(h:c≠10∧c≠9∧c≠13):esc1 (UInt8.ofNat c)=[92,120,hx (c/16),hx (c%16)]:=by
 have ht:(UInt8.ofNat c).toNat=c:=by rw[UInt8.toNat_ofNat',Nat.mod_eq_of_lt (by omega)]
 have hn:∀d:UInt8,c≠d.toNat→¬UInt8.ofNat c=d:=fun d hd e=>hd (by rw[←e,ht]);unfold esc1;rw[if_neg (hn 92 (show c≠92 by omega)),if_neg (hn 39 (show c≠39 by omega)),if_neg (hn 10 h.1),if_neg (hn 9 h.2.1),if_neg (hn 13 h.2.2),if_pos (.inl (by rw[ht];exact hc)),ht]
theorem zSd(w:World):CG 100 #[.int .u8 92] w (.string (strU (esc1 92))):=by
 go_enter func100,ntmps100
 go_wp2
 go_ret;exact⟨rfl,G.refl _⟩
theorem zSe(w:World):CG 100 #[.int .u8 39] w (.string (strU (esc1 39))):=by
 go_enter func100,ntmps100
 go_wp2
 go_ret;exact⟨rfl,G.refl _⟩
theorem zSg(w:World):CG 100 #[.int .u8 10] w (.string (strU (esc1 10))):=by
 go_enter func100,ntmps100
 go_wp2
 go_ret;exact⟨rfl,G.refl _⟩
theorem zU4(w:World):CG 100 #[.int .u8 9] w (.string (strU (esc1 9))):=by
 go_enter func100,ntmps100
 go_wp2
 go_ret;exact⟨rfl,G.refl _⟩
theorem zSf(w:World):CG 100 #[.int .u8 13] w (.string (strU (esc1 13))):=by
 go_enter func100,ntmps100
 go_wp2
 go_ret;exact⟨rfl,G.refl _⟩
theorem zKr(c:Nat)(hc:c<256)(h32:¬c<32)(h92:¬(c:Int)=92)(h39:¬(c:Int)=39)(h10:¬(c:Int)=10)(h9:¬(c:Int)=9)(h13:¬(c:Int)=13)(h127:¬(c:Int)=127)(w:World):CG 100 #[.int .u8 c] w (.string (strU [UInt8.ofNat c])):=by
 have hcv:=zRr w (UInt8.ofNat c) (c:Int) (by rw[UInt8.toNat_ofNat',Nat.mod_eq_of_lt hc])
 have h32I:¬(c:Int)<32:=by omega
 go_enter func100,ntmps100
 go_wp2
 go_ret;exact⟨rfl,(G.refl w).alloc _⟩
theorem zK1(c:Nat)(hc:c<256)(h:¬c<32∧c≠92∧c≠39∧c≠127):esc1 (UInt8.ofNat c)=[UInt8.ofNat c]:=by
 have ht:(UInt8.ofNat c).toNat=c:=by rw[UInt8.toNat_ofNat',Nat.mod_eq_of_lt hc]
 have hn:∀d:UInt8,c≠d.toNat→¬UInt8.ofNat c=d:=fun d hd e=>hd (by rw[←e,ht]);unfold esc1;rw[if_neg (hn 92 h.2.1),if_neg (hn 39 h.2.2.1),if_neg (hn 10 (show c≠10 by omega)),if_neg (hn 9 (show c≠9 by omega)),if_neg (hn 13 (show c≠13 by omega)),if_neg (fun x=>x.elim (fun y=>h.1 (by rw[ht] at y;exact y)) (hn 127 h.2.2.2))]
theorem zIK(c:Nat)(hc:c<256)(w:World):Calls prog 100 #[.int .u8 c] w fun e w'=>e=.returned (.string (strU (esc1 (UInt8.ofNat c))))∧G w w':=by
 by_cases h:¬c<32∧c≠92∧c≠39∧c≠127
 ·rw[zK1 c hc h]
  exact zKr c hc h.1 (by omega) (by omega) (by omega) (by omega) (by omega) (by omega) w
 ·by_cases h3:c=10∨c=9∨c=13∨c=92∨c=39∨c=127
  ·rcases h3 with rfl|rfl|rfl|rfl|rfl|rfl
   ·exact zSg w
   ·exact zU4 w
   ·exact zSf w
   ·exact zSd w
   ·exact zSe w
   ·exact zON w
  ·have hb:∀d:Nat,c≠d→((c:Int)==(d:Int))=false:=fun d hd=>beq_false_of_ne (by omega)
   rw[zTW c (by omega) (by omega)];exact zSc c (by omega) (hb 92 (by omega)) (hb 39 (by omega)) (hb 10 (by omega)) (hb 9 (by omega)) (hb 13 (by omega)) w
end
section
open Go.RowKit Go.Lib Go.Shelf
theorem zEy:∀(k u:Nat),u<10^(k+1)→(decDigits u).length≤k+1
 | 0,u,h=>by rw[decDigits,dif_pos (by omega)];simp
 | k+1,u,h=>by
  rw[decDigits]
  by_cases h1:u<10
  ·rw[dif_pos h1];simp
  ·rw[dif_neg h1,List.length_append]
   have:=zEy k (u/10) (by rw[Nat.pow_succ] at h;omega);simp;omega
theorem zBv(n:Int)(h:R64 n):(itoa n).length≤21:=by
 unfold R64 at h;unfold itoa
 split
 ·have:=zEy 19 n.natAbs (by omega)
  simp;omega
 ·have:=zEy 19 n.toNat (by omega)
  omega
theorem zEx(c:UInt8):(esc1 c).length≤4:=by unfold esc1;(repeat' split)<;>simp
theorem zEw:∀l:List UInt8,(escS l).length≤4*l.length
 | []=>by simp[escS]
 | c::l=>by
  have:=zEw l;have h1:=zEx c;simp only[escS,List.flatMap_cons,List.length_append,List.length_cons] at this⊢;omega
theorem zR7(a b:Int)(s:ByteArray)(hok:okV 0 a b s=true)(hs:s.size≤4611686018427387904)(_ha:R64 a)(_hb:R64 b)(w:World):CG 56 #[V 0 a b s] w (.string (strU [110,117,108,108])):=by
 have HV:=hide (zAm 0 a b s hs);rw[hok] at HV;have HG1:=hide ((G.refl w).alloc (.cells #[I 0,I a,I b,.string s] 31))
 have HC1:Hid (∀o,(w.alloc (.cells #[I 0,I a,I b,.string s] 31)).cell? ⟨w.heap.size,o,none⟩=([I 0,I a,I b,.string s]:List Value)[o]?):=fun o=>by simp
 have HZ1:Hid (w.heap.size<(w.alloc (.cells #[I 0,I a,I b,.string s] 31)).heap.size):=by unfold Hid;simp
 go_enter func56,ntmps56
 go_wp2_with fail
 generalize w.alloc (.cells #[I 0,I a,I b,.string s] 31)=w1 at HG1 HC1 HZ1⊢;refine(HV.out _).mono ?_;rintro e' w2 ⟨rfl,hg⟩;have HG2:=hide (HG1.out.trans hg);have hc:=G.cells hg HC1.out HZ1.out;have HZ2:Hid (w.heap.size<w2.heap.size):=Nat.lt_of_lt_of_le HZ1.out hg.size;clear hg HC1 HZ1 HG1 HV
 go_wp2
 go_ret;exact⟨rfl,HG2.out⟩
theorem zR6(b:Int)(s:ByteArray)(hok:okV 1 1 b s=true)(hs:s.size≤4611686018427387904)(_hb:R64 b)(w:World):CG 56 #[V 1 1 b s] w (.string (strU [116,114,117,101])):=by
 have HV:=hide (zAm 1 1 b s hs);rw[hok] at HV;have HG1:=hide ((G.refl w).alloc (.cells #[I 1,I 1,I b,.string s] 31))
 have HC1:Hid (∀o,(w.alloc (.cells #[I 1,I 1,I b,.string s] 31)).cell? ⟨w.heap.size,o,none⟩=([I 1,I 1,I b,.string s]:List Value)[o]?):=fun o=>by simp
 have HZ1:Hid (w.heap.size<(w.alloc (.cells #[I 1,I 1,I b,.string s] 31)).heap.size):=by unfold Hid;simp
 go_enter func56,ntmps56
 go_wp2_with fail
 generalize w.alloc (.cells #[I 1,I 1,I b,.string s] 31)=w1 at HG1 HC1 HZ1⊢;refine(HV.out _).mono ?_;rintro e' w2 ⟨rfl,hg⟩;have HG2:=hide (HG1.out.trans hg);have hc:=G.cells hg HC1.out HZ1.out;have HZ2:Hid (w.heap.size<w2.heap.size):=Nat.lt_of_lt_of_le HZ1.out hg.size;clear hg HC1 HZ1 HG1 HV
 go_wp2
 go_ret;exact⟨rfl,HG2.out⟩
theorem zOF(b:Int)(s:ByteArray)(hok:okV 1 0 b s=true)(hs:s.size≤4611686018427387904)(_hb:R64 b)(w:World):CG 56 #[V 1 0 b s] w (.string (strU [102,97,108,115,101])):=by
 have HV:=hide (zAm 1 0 b s hs);rw[hok] at HV;have HG1:=hide ((G.refl w).alloc (.cells #[I 1,I 0,I b,.string s] 31))
 have HC1:Hid (∀o,(w.alloc (.cells #[I 1,I 0,I b,.string s] 31)).cell? ⟨w.heap.size,o,none⟩=([I 1,I 0,I b,.string s]:List Value)[o]?):=fun o=>by simp
 have HZ1:Hid (w.heap.size<(w.alloc (.cells #[I 1,I 0,I b,.string s] 31)).heap.size):=by unfold Hid;simp
 go_enter func56,ntmps56
 go_wp2_with fail
 generalize w.alloc (.cells #[I 1,I 0,I b,.string s] 31)=w1 at HG1 HC1 HZ1⊢;refine(HV.out _).mono ?_;rintro e' w2 ⟨rfl,hg⟩;have HG2:=hide (HG1.out.trans hg);have hc:=G.cells hg HC1.out HZ1.out;have HZ2:Hid (w.heap.size<w2.heap.size):=Nat.lt_of_lt_of_le HZ1.out hg.size;clear hg HC1 HZ1 HG1 HV
 go_wp2
 go_ret;exact⟨rfl,HG2.out⟩
theorem zOE(a b:Int)(s:ByteArray)(hok:okV 2 a b s=true)(hs:s.size≤4611686018427387904)(ha:R64 a)(_hb:R64 b)(w:World):CG 56 #[V 2 a b s] w (.string (strU (itoa a))):=by
 have HV:=hide (zAm 2 a b s hs);rw[hok] at HV;have HG1:=hide ((G.refl w).alloc (.cells #[I 2,I a,I b,.string s] 31))
 have HC1:Hid (∀o,(w.alloc (.cells #[I 2,I a,I b,.string s] 31)).cell? ⟨w.heap.size,o,none⟩=([I 2,I a,I b,.string s]:List Value)[o]?):=fun o=>by simp
 have HZ1:Hid (w.heap.size<(w.alloc (.cells #[I 2,I a,I b,.string s] 31)).heap.size):=by unfold Hid;simp
 go_enter func56,ntmps56
 go_wp2_with fail
 generalize w.alloc (.cells #[I 2,I a,I b,.string s] 31)=w1 at HG1 HC1 HZ1⊢;refine(HV.out _).mono ?_;rintro e' w2 ⟨rfl,hg⟩;have HG2:=hide (HG1.out.trans hg);have hc:=G.cells hg HC1.out HZ1.out;have HZ2:Hid (w.heap.size<w2.heap.size):=Nat.lt_of_lt_of_le HZ1.out hg.size;clear hg HC1 HZ1 HG1 HV
 go_wp2_with fail
 refine(zCd a ha _).mono ?_;rintro e' w3 ⟨rfl,hg⟩;have HG3:=hide (HG2.out.trans hg);clear hg hc
 go_wp2
 go_ret;exact⟨rfl,HG3.out⟩
theorem zR8(a b:Int)(s:ByteArray)(hok:okV 5 a b s=true)(hs:s.size≤4611686018427387904)(ha:R64 a)(_hb:R64 b)(w:World):CG 56 #[V 5 a b s] w (.string (strU (40::itoa a++[41]))):=by
 have HV:=hide (zAm 5 a b s hs);rw[hok] at HV;have HG1:=hide ((G.refl w).alloc (.cells #[I 5,I a,I b,.string s] 31))
 have HC1:Hid (∀o,(w.alloc (.cells #[I 5,I a,I b,.string s] 31)).cell? ⟨w.heap.size,o,none⟩=([I 5,I a,I b,.string s]:List Value)[o]?):=fun o=>by simp
 have HZ1:Hid (w.heap.size<(w.alloc (.cells #[I 5,I a,I b,.string s] 31)).heap.size):=by unfold Hid;simp
 have hadd1:∀W,(Op.stringOp .add {data:=#[40]} (strU (itoa a))).run prog W=.ok (.string (strU (40::itoa a))) W:=zDm [40] (itoa a) (by have:=zBv a ha;simp;omega);have hadd2:∀W,(Op.stringOp .add (strU (40::itoa a)) {data:=#[41]}).run prog W=.ok (.string (strU (40::itoa a++[41]))) W:=zDm (40::itoa a) [41] (by have:=zBv a ha;simp;omega);have HD:=hide (zCd a ha);generalize 40::itoa a++[41]=l3 at hadd2⊢;generalize 40::itoa a=l2 at hadd1 hadd2;generalize itoa a=l1 at hadd1 HD
 go_enter func56,ntmps56
 go_wp2_with fail
 generalize w.alloc (.cells #[I 5,I a,I b,.string s] 31)=w1 at HG1 HC1 HZ1⊢;refine(HV.out _).mono ?_;rintro e' w2 ⟨rfl,hg⟩;have HG2:=hide (HG1.out.trans hg);have hc:=G.cells hg HC1.out HZ1.out;have HZ2:Hid (w.heap.size<w2.heap.size):=Nat.lt_of_lt_of_le HZ1.out hg.size;clear hg HC1 HZ1 HG1 HV
 go_wp2_with fail
 refine(HD.out _).mono ?_;rintro e' w3 ⟨rfl,hg⟩;have HG3:=hide (HG2.out.trans hg);clear hg hc
 go_wp2
 go_ret;exact⟨rfl,HG3.out⟩
theorem zSa(a b:Int)(s:ByteArray)(hok:okV 6 a b s=true)(hs:s.size≤4611686018427387904)(ha:R64 a)(_hb:R64 b)(w:World):CG 56 #[V 6 a b s] w (.string (strU (91::itoa a++[93]))):=by
 have HV:=hide (zAm 6 a b s hs);rw[hok] at HV;have HG1:=hide ((G.refl w).alloc (.cells #[I 6,I a,I b,.string s] 31))
 have HC1:Hid (∀o,(w.alloc (.cells #[I 6,I a,I b,.string s] 31)).cell? ⟨w.heap.size,o,none⟩=([I 6,I a,I b,.string s]:List Value)[o]?):=fun o=>by simp
 have HZ1:Hid (w.heap.size<(w.alloc (.cells #[I 6,I a,I b,.string s] 31)).heap.size):=by unfold Hid;simp
 have hadd1:∀W,(Op.stringOp .add {data:=#[91]} (strU (itoa a))).run prog W=.ok (.string (strU (91::itoa a))) W:=zDm [91] (itoa a) (by have:=zBv a ha;simp;omega);have hadd2:∀W,(Op.stringOp .add (strU (91::itoa a)) {data:=#[93]}).run prog W=.ok (.string (strU (91::itoa a++[93]))) W:=zDm (91::itoa a) [93] (by have:=zBv a ha;simp;omega);have HD:=hide (zCd a ha);generalize 91::itoa a++[93]=l3 at hadd2⊢;generalize 91::itoa a=l2 at hadd1 hadd2;generalize itoa a=l1 at hadd1 HD
 go_enter func56,ntmps56
 go_wp2_with fail
 generalize w.alloc (.cells #[I 6,I a,I b,.string s] 31)=w1 at HG1 HC1 HZ1⊢;refine(HV.out _).mono ?_;rintro e' w2 ⟨rfl,hg⟩;have HG2:=hide (HG1.out.trans hg);have hc:=G.cells hg HC1.out HZ1.out;have HZ2:Hid (w.heap.size<w2.heap.size):=Nat.lt_of_lt_of_le HZ1.out hg.size;clear hg HC1 HZ1 HG1 HV
 go_wp2_with fail
 refine(HD.out _).mono ?_;rintro e' w3 ⟨rfl,hg⟩;have HG3:=hide (HG2.out.trans hg);clear hg hc
 go_wp2
 go_ret;exact⟨rfl,HG3.out⟩
theorem zU3(a b:Int)(s:ByteArray)(hok:okV 3 a b s=true)(hs:s.size≤4611686018427387904)(ha:R64 a)(hb:R64 b)(h0:b<0)(w:World):CG 56 #[V 3 a b s] w (.string (strU (itoa a++itoa b++[105]))):=by
 have HV:=hide (zAm 3 a b s hs);rw[hok] at HV;have HG1:=hide ((G.refl w).alloc (.cells #[I 3,I a,I b,.string s] 31))
 have HC1:Hid (∀o,(w.alloc (.cells #[I 3,I a,I b,.string s] 31)).cell? ⟨w.heap.size,o,none⟩=([I 3,I a,I b,.string s]:List Value)[o]?):=fun o=>by simp
 have HZ1:Hid (w.heap.size<(w.alloc (.cells #[I 3,I a,I b,.string s] 31)).heap.size):=by unfold Hid;simp
 have la:=zBv a ha;have lb:=zBv b hb;have HDA:=hide (zCd a ha);have HDB:=hide (zCd b hb);have hadd1:∀W,(Op.stringOp .add (strU (itoa a)) (strU (itoa b))).run prog W=.ok (.string (strU (itoa a++itoa b))) W:=zDm _ _ (by omega);have hadd2:∀W,(Op.stringOp .add (strU (itoa a++itoa b)) {data:=#[105]}).run prog W=.ok (.string (strU (itoa a++itoa b++[105]))) W:=zDm (itoa a++itoa b) [105] (by simp;omega);generalize itoa a++itoa b++[105]=l3 at hadd2⊢;generalize itoa a++itoa b=l2 at hadd1 hadd2;generalize itoa a=la' at *;generalize itoa b=lb' at *;clear la lb
 go_enter func56,ntmps56
 go_wp2_with fail
 generalize w.alloc (.cells #[I 3,I a,I b,.string s] 31)=w1 at HG1 HC1 HZ1⊢;refine(HV.out _).mono ?_;rintro e' w2 ⟨rfl,hg⟩;have HG2:=hide (HG1.out.trans hg);have hc:=G.cells hg HC1.out HZ1.out;have HZ2:Hid (w.heap.size<w2.heap.size):=Nat.lt_of_lt_of_le HZ1.out hg.size;clear hg HC1 HZ1 HG1 HV;have HCC:=hide hc
 go_wp2_with fail
 clear hc;refine wp_region_noPanic ?_;refine wp_region_held_drew (S:=(fun W=>∀o,W.cell? ⟨w.heap.size,o,none⟩=([I 3,I a,I b,.string s]:List Value)[o]?)) (by kernel_rfl) (HCC.out) (fun hHeld=>?_);refine wpAnyH_take (i:=0) (v:=?_) rfl (by kernel_rfl) (by kernel_rfl) (by kernel_rfl) (fun _ _ _ h=>h) (Or.inl ⟨by rfl,?_⟩) hHeld ?_;rotate_left 1
 ·(intro w hSw;(try dsimp only at hSw);go_simp;try with_reducible rfl)
 try simp only[Act.put,List.getElem_toArray,List.getElem_cons_zero,List.setIfInBounds_toArray,List.set_cons_zero,List.set_cons_succ]
 refine wpAnyH_take (i:=1) (v:=?_) rfl (by kernel_rfl) (by kernel_rfl) (by kernel_rfl) (fun _ _ _ h=>h) (Or.inl ⟨by rfl,?_⟩) hHeld ?_;rotate_left 1
 ·(intro w hSw;have q3:=hSw;go_simp;try with_reducible rfl)
 try simp only[Act.put,List.getElem_toArray,List.getElem_cons_zero,List.getElem_cons_succ,List.setIfInBounds_toArray,List.set_cons_zero,List.set_cons_succ]
 refine wpAnyH_take (i:=3) (v:=?_) rfl (by kernel_rfl) (by kernel_rfl) (by kernel_rfl) (fun _ _ _ h=>h) (Or.inl ⟨by rfl,?_⟩) hHeld ?_;rotate_left 1
 ·(intro w hSw;(try dsimp only at hSw);go_simp;try with_reducible rfl)
 try simp only[Act.put,List.getElem_toArray,List.getElem_cons_zero,List.getElem_cons_succ,List.setIfInBounds_toArray,List.set_cons_zero,List.set_cons_succ]
 refine wpAnyH_take (i:=4) (v:=?_) rfl (by kernel_rfl) (by kernel_rfl) (by kernel_rfl) (fun _ _ _ h=>h) (Or.inl ⟨by rfl,?_⟩) hHeld ?_;rotate_left 1
 ·(intro w hSw;have q3:=hSw;go_simp;try with_reducible rfl)
 try simp only[Act.put,List.getElem_toArray,List.getElem_cons_zero,List.getElem_cons_succ,List.setIfInBounds_toArray,List.set_cons_zero,List.set_cons_succ]
 refine wpAnyH_ready (rs:=[2]) (by kernel_rfl) (by simp) (AllReadyH.cons rfl (fun K hK=>?_) AllReadyH.nil);clear hHeld
 go_simp
 with_reducible refine(HDA.out _).mono ?_
 rintro e' w3 ⟨rfl,hb'⟩;have HG3:=hide (G.trans (G.drew (G.refl _)) hb');clear hb'
 go_wp2_with fail
 refine hK.out _ _ (G.cells HG3.out HCC.out HZ2.out) (fun hHeld=>?_);clear hK K
 try simp only[Act.put,List.getElem_toArray,List.getElem_cons_zero,List.getElem_cons_succ,List.setIfInBounds_toArray,List.set_cons_zero,List.set_cons_succ]
 refine wpAnyH_ready (rs:=[5]) (by kernel_rfl) (by simp) (AllReadyH.cons rfl (fun K hK=>?_) AllReadyH.nil);clear hHeld
 go_simp
 with_reducible refine(HDB.out _).mono ?_
 rintro e' w4 ⟨rfl,hb'⟩;have HG4:=hide (HG3.out.trans hb');clear hb'
 go_wp2_with fail
 refine hK.out _ _ (G.cells HG4.out HCC.out HZ2.out) (fun hHeld=>?_);clear hK K
 try simp only[Act.put,List.getElem_toArray,List.getElem_cons_zero,List.getElem_cons_succ,List.setIfInBounds_toArray,List.set_cons_zero,List.set_cons_succ]
 refine wpAnyH_take (i:=6) (v:=?_) rfl (by kernel_rfl) (by kernel_rfl) (by kernel_rfl) (fun _ _ _ h=>h) (Or.inl ⟨by rfl,?_⟩) hHeld ?_;rotate_left 1
 ·(intro w hSw;(try dsimp only at hSw);go_simp;try with_reducible rfl)
 try simp only[Act.put,List.getElem_toArray,List.getElem_cons_zero,List.getElem_cons_succ,List.setIfInBounds_toArray,List.set_cons_zero,List.set_cons_succ]
 refine wpAnyH_take (i:=7) (v:=?_) rfl (by kernel_rfl) (by kernel_rfl) (by kernel_rfl) (fun _ _ _ h=>h) (Or.inl ⟨by rfl,?_⟩) hHeld ?_;rotate_left 1
 ·(intro w hSw;(try dsimp only at hSw);go_simp;try with_reducible rfl)
 try simp only[Act.put,List.getElem_toArray,List.getElem_cons_zero,List.getElem_cons_succ,List.setIfInBounds_toArray,List.set_cons_zero,List.set_cons_succ]
 refine wpAnyH_take (i:=8) (v:=?_) rfl (by kernel_rfl) (by kernel_rfl) (by kernel_rfl) (fun _ _ _ h=>h) (Or.inl ⟨by rfl,?_⟩) hHeld ?_;rotate_left 1
 ·(intro w hSw;(try dsimp only at hSw);go_simp;try with_reducible rfl)
 try simp only[Act.put,List.getElem_toArray,List.getElem_cons_zero,List.getElem_cons_succ,List.setIfInBounds_toArray,List.set_cons_zero,List.set_cons_succ]
 refine wpAnyH_done (by kernel_rfl) ?_ _;refine NoPanic.normal ?_
 go_wp2
 go_ret;exact⟨rfl,HG2.out.trans HG4.out⟩
theorem zU0(a b:Int)(s:ByteArray)(hok:okV 3 a b s=true)(hs:s.size≤4611686018427387904)(ha:R64 a)(hb:R64 b)(h0:¬b<0)(w:World):CG 56 #[V 3 a b s] w (.string (strU (itoa a++43::itoa b++[105]))):=by
 have HV:=hide (zAm 3 a b s hs);rw[hok] at HV;have HG1:=hide ((G.refl w).alloc (.cells #[I 3,I a,I b,.string s] 31))
 have HC1:Hid (∀o,(w.alloc (.cells #[I 3,I a,I b,.string s] 31)).cell? ⟨w.heap.size,o,none⟩=([I 3,I a,I b,.string s]:List Value)[o]?):=fun o=>by simp
 have HZ1:Hid (w.heap.size<(w.alloc (.cells #[I 3,I a,I b,.string s] 31)).heap.size):=by unfold Hid;simp
 have la:=zBv a ha;have lb:=zBv b hb;have HDA:=hide (zCd a ha);have HDB:=hide (zCd b hb);have hadd0:∀W,(Op.stringOp .add (strU (itoa a)) {data:=#[43]}).run prog W=.ok (.string (strU (itoa a++[43]))) W:=zDm (itoa a) [43] (by simp;omega);have hadd1:∀W,(Op.stringOp .add (strU (itoa a++[43])) (strU (itoa b))).run prog W=.ok (.string (strU (itoa a++[43]++itoa b))) W:=zDm _ _ (by simp;omega)
 have hadd2:∀W,(Op.stringOp .add (strU (itoa a++[43]++itoa b)) {data:=#[105]}).run prog W=.ok (.string (strU (itoa a++43::itoa b++[105]))) W:=fun W=>by
  have:=zDm (itoa a++[43]++itoa b) [105] (by simp;omega) W;rw[show itoa a++43::itoa b++[105]=itoa a++[43]++itoa b++[105] by simp];exact this
 generalize itoa a++43::itoa b++[105]=l3 at hadd2⊢;generalize itoa a++[43]++itoa b=l2 at hadd1 hadd2;generalize itoa a++[43]=l0 at hadd0 hadd1;generalize itoa a=la' at *;generalize itoa b=lb' at *;clear la lb
 go_enter func56,ntmps56
 go_wp2_with fail
 generalize w.alloc (.cells #[I 3,I a,I b,.string s] 31)=w1 at HG1 HC1 HZ1⊢;refine(HV.out _).mono ?_;rintro e' w2 ⟨rfl,hg⟩;have HG2:=hide (HG1.out.trans hg);have hc:=G.cells hg HC1.out HZ1.out;have HZ2:Hid (w.heap.size<w2.heap.size):=Nat.lt_of_lt_of_le HZ1.out hg.size;clear hg HC1 HZ1 HG1 HV;have HCC:=hide hc
 go_wp2_with fail
 clear hc;refine wp_region_noPanic ?_;refine wp_region_held_drew (S:=(fun W=>∀o,W.cell? ⟨w.heap.size,o,none⟩=([I 3,I a,I b,.string s]:List Value)[o]?)) (by kernel_rfl) (HCC.out) (fun hHeld=>?_);refine wpAnyH_take (i:=0) (v:=?_) rfl (by kernel_rfl) (by kernel_rfl) (by kernel_rfl) (fun _ _ _ h=>h) (Or.inl ⟨by rfl,?_⟩) hHeld ?_;rotate_left 1
 ·(intro w hSw;(try dsimp only at hSw);go_simp;try with_reducible rfl)
 try simp only[Act.put,List.getElem_toArray,List.getElem_cons_zero,List.setIfInBounds_toArray,List.set_cons_zero,List.set_cons_succ]
 refine wpAnyH_take (i:=1) (v:=?_) rfl (by kernel_rfl) (by kernel_rfl) (by kernel_rfl) (fun _ _ _ h=>h) (Or.inl ⟨by rfl,?_⟩) hHeld ?_;rotate_left 1
 ·(intro w hSw;have q3:=hSw;go_simp;try with_reducible rfl)
 try simp only[Act.put,List.getElem_toArray,List.getElem_cons_zero,List.getElem_cons_succ,List.setIfInBounds_toArray,List.set_cons_zero,List.set_cons_succ]
 refine wpAnyH_take (i:=4) (v:=?_) rfl (by kernel_rfl) (by kernel_rfl) (by kernel_rfl) (fun _ _ _ h=>h) (Or.inl ⟨by rfl,?_⟩) hHeld ?_;rotate_left 1
 ·(intro w hSw;(try dsimp only at hSw);go_simp;try with_reducible rfl)
 try simp only[Act.put,List.getElem_toArray,List.getElem_cons_zero,List.getElem_cons_succ,List.setIfInBounds_toArray,List.set_cons_zero,List.set_cons_succ]
 refine wpAnyH_take (i:=5) (v:=?_) rfl (by kernel_rfl) (by kernel_rfl) (by kernel_rfl) (fun _ _ _ h=>h) (Or.inl ⟨by rfl,?_⟩) hHeld ?_;rotate_left 1
 ·(intro w hSw;have q3:=hSw;go_simp;try with_reducible rfl)
 try simp only[Act.put,List.getElem_toArray,List.getElem_cons_zero,List.getElem_cons_succ,List.setIfInBounds_toArray,List.set_cons_zero,List.set_cons_succ]
 refine wpAnyH_ready (rs:=[2]) (by kernel_rfl) (by simp) (AllReadyH.cons rfl (fun K hK=>?_) AllReadyH.nil);clear hHeld
 go_simp
 with_reducible refine(HDA.out _).mono ?_
 rintro e' w3 ⟨rfl,hb'⟩;have HG3:=hide (G.trans (G.drew (G.refl _)) hb');clear hb'
 go_wp2_with fail
 refine hK.out _ _ (G.cells HG3.out HCC.out HZ2.out) (fun hHeld=>?_);clear hK K
 try simp only[Act.put,List.getElem_toArray,List.getElem_cons_zero,List.getElem_cons_succ,List.setIfInBounds_toArray,List.set_cons_zero,List.set_cons_succ]
 refine wpAnyH_take (i:=3) (v:=?_) rfl (by kernel_rfl) (by kernel_rfl) (by kernel_rfl) (fun _ _ _ h=>h) (Or.inl ⟨by rfl,?_⟩) hHeld ?_;rotate_left 1
 ·(intro w hSw;(try dsimp only at hSw);go_simp;try with_reducible rfl)
 try simp only[Act.put,List.getElem_toArray,List.getElem_cons_zero,List.getElem_cons_succ,List.setIfInBounds_toArray,List.set_cons_zero,List.set_cons_succ]
 refine wpAnyH_ready (rs:=[6]) (by kernel_rfl) (by simp) (AllReadyH.cons rfl (fun K hK=>?_) AllReadyH.nil);clear hHeld
 go_simp
 with_reducible refine(HDB.out _).mono ?_
 rintro e' w4 ⟨rfl,hb'⟩;have HG4:=hide (HG3.out.trans hb');clear hb'
 go_wp2_with fail
 refine hK.out _ _ (G.cells HG4.out HCC.out HZ2.out) (fun hHeld=>?_);clear hK K
 try simp only[Act.put,List.getElem_toArray,List.getElem_cons_zero,List.getElem_cons_succ,List.setIfInBounds_toArray,List.set_cons_zero,List.set_cons_succ]
 refine wpAnyH_take (i:=7) (v:=?_) rfl (by kernel_rfl) (by kernel_rfl) (by kernel_rfl) (fun _ _ _ h=>h) (Or.inl ⟨by rfl,?_⟩) hHeld ?_;rotate_left 1
 ·(intro w hSw;(try dsimp only at hSw);go_simp;try with_reducible rfl)
 try simp only[Act.put,List.getElem_toArray,List.getElem_cons_zero,List.getElem_cons_succ,List.setIfInBounds_toArray,List.set_cons_zero,List.set_cons_succ]
 refine wpAnyH_take (i:=8) (v:=?_) rfl (by kernel_rfl) (by kernel_rfl) (by kernel_rfl) (fun _ _ _ h=>h) (Or.inl ⟨by rfl,?_⟩) hHeld ?_;rotate_left 1
 ·(intro w hSw;(try dsimp only at hSw);go_simp;try with_reducible rfl)
 try simp only[Act.put,List.getElem_toArray,List.getElem_cons_zero,List.getElem_cons_succ,List.setIfInBounds_toArray,List.set_cons_zero,List.set_cons_succ]
 refine wpAnyH_take (i:=9) (v:=?_) rfl (by kernel_rfl) (by kernel_rfl) (by kernel_rfl) (fun _ _ _ h=>h) (Or.inl ⟨by rfl,?_⟩) hHeld ?_;rotate_left 1
 ·(intro w hSw;(try dsimp only at hSw);go_simp;try with_reducible rfl)
 try simp only[Act.put,List.getElem_toArray,List.getElem_cons_zero,List.getElem_cons_succ,List.setIfInBounds_toArray,List.set_cons_zero,List.set_cons_succ]
 refine wpAnyH_done (by kernel_rfl) ?_ _;refine NoPanic.normal ?_
 go_wp2
 go_ret;exact⟨rfl,HG2.out.trans HG4.out⟩
theorem zUZ(a b:Int)(s:ByteArray)(hok:okV 4 a b s=true)(hs:s.size≤4611686018427387904)(_ha:R64 a)(_hb:R64 b)(h32:s.size≤32)(w:World):CG 56 #[V 4 a b s] w (.string (strU (39::escS s.data.toList++[39]))):=by
 have HV:=hide (zAm 4 a b s hs);rw[hok] at HV;have HG1:=hide ((G.refl w).alloc (.cells #[I 4,I a,I b,.string s] 31))
 have HC1:Hid (∀o,(w.alloc (.cells #[I 4,I a,I b,.string s] 31)).cell? ⟨w.heap.size,o,none⟩=([I 4,I a,I b,.string s]:List Value)[o]?):=fun o=>by simp
 have HZ1:Hid (w.heap.size<(w.alloc (.cells #[I 4,I a,I b,.string s] 31)).heap.size):=by unfold Hid;simp
 go_enter func56,ntmps56
 go_wp2_with fail
 generalize w.alloc (.cells #[I 4,I a,I b,.string s] 31)=w1 at HG1 HC1 HZ1⊢;refine(HV.out _).mono ?_;rintro e' w2 ⟨rfl,hg⟩;have HG2:=hide (HG1.out.trans hg);have hc:=G.cells hg HC1.out HZ1.out;have HZ2:Hid (w.heap.size<w2.heap.size):=Nat.lt_of_lt_of_le HZ1.out hg.size;clear hg HC1 HZ1 HG1 HV;have HCC:=hide hc
 have hsl:s.data.toList.length=s.size:=by rw[Array.length_toList];rfl
 have HEL:=hide (zEw s.data.toList)
 go_wp2_with fail
 clear hc
 go_loopw [3,4] (fun x i W=>∃k:Nat,k≤s.size∧i=.int .i64 k∧x=.string (strU (39::escS (s.data.toList.take k)))∧G w2 W) (fun _ i _=>s.size-(RowKit.intOf i).toNat)
 case atStart=>exact⟨0,by omega,rfl,rfl,G.refl _⟩
 case round=>
  obtain⟨k,hk,rfl,rfl,hg⟩:=hrel;have HG:=hide hg;have hc:=G.cells hg HCC.out HZ2.out;clear hg
  by_cases hlt:k<s.size
  ·have hkI:(k:Int)<(s.size:Int):=by omega
   have hget:s.data.toList[k]?=some s[k]:=by simp[ByteArray.getElem_eq_getElem_data,hlt]
   have htk:s.data.toList.take (k+1)=s.data.toList.take k++[s[k]]:=by
    obtain⟨h1,h2⟩:=List.getElem?_eq_some_iff.1 hget;rw[List.take_succ_eq_append_getElem h1,h2]
   have hes:escS (s.data.toList.take (k+1))=escS (s.data.toList.take k)++esc1 s[k]:=by rw[htk];simp[escS]
   have HLE:=hide (zIK s[k].toNat s[k].toNat_lt);rw[UInt8.ofNat_toNat] at HLE;have hadd:=zDm (39::escS (s.data.toList.take k)) (esc1 s[k]) (by have h1:=zEx s[k];have h2:=zEw (s.data.toList.take k);simp at h2 ⊢;omega);rw[List.cons_append,←hes] at hadd;clear htk hes hget;generalize hl2:escS (s.data.toList.take (k+1))=l2 at hadd;have HL2:=hide hl2;clear hl2
   go_wp2_with fail
   refine(HLE.out _).mono ?_;rintro e' w3 ⟨rfl,hg3⟩;have HG3:=hide (HG.out.trans hg3);clear hg3 hc HLE
   go_wp2
   go_roundw
   case rel=>exact⟨k+1,by omega,by go_num,by rw[HL2.out],HG3.out⟩
   case measure=>simp[RowKit.intOf];omega
  ·obtain rfl:k=s.size:=by omega
   have hta:s.data.toList.take s.size=s.data.toList:=by rw[←hsl,List.take_length]
   rw[hta];have hadd:∀W,(Op.stringOp .add (strU (39::escS s.data.toList)) {data:=#[39]}).run prog W=.ok (.string (strU (39::escS s.data.toList++[39]))) W:=zDm (39::escS s.data.toList) [39] (by have:=HEL.out;simp at this ⊢;omega)
   go_wp2
   go_ret;exact⟨rfl,HG2.out.trans HG.out⟩
theorem zFe(k a b:Int)(s:ByteArray)(h:okV k a b s=true)(hs:s.size≤4611686018427387904)(ha:R64 a)(hb:R64 b)(w:World):CG 56 #[V k a b s] w (.string (strU (litV k a b s))):=by
 have hk:=zAp k a b s h
 have:k=0∨k=1∨k=2∨k=3∨k=4∨k=5∨k=6:=by omega
 rcases this with rfl|rfl|rfl|rfl|rfl|rfl|rfl
 ·exact zR7 a b s h hs ha hb w
 ·obtain⟨hx,_,_⟩:=ok_1 h
  rcases hx with rfl|rfl
  ·exact zOF b s h hs hb w
  ·exact zR6 b s h hs hb w
 ·exact zOE a b s h hs ha hb w
 ·by_cases h0:b<0
  ·have:=zU3 a b s h hs ha hb h0 w
   simpa [litV,h0] using this
  ·have:=zU0 a b s h hs ha hb h0 w
   simpa [litV,h0] using this
 ·exact zUZ a b s h hs ha hb (ok_4 h).2.2.1 w
 ·exact zR8 a b s h hs ha hb w
 ·exact zSa a b s h hs ha hb w
theorem zLF(k a b:Int)(s:ByteArray)(h:okV k a b s=false)(hs:s.size≤4611686018427387904)(w:World):CG 56 #[V k a b s] w (.string (strU [])):=by
 have HV:=hide (zAm k a b s hs);rw[h] at HV;have HG1:=hide ((G.refl w).alloc (.cells #[I k,I a,I b,.string s] 31))
 go_enter func56,ntmps56
 go_wp2_with fail
 generalize w.alloc (.cells #[I k,I a,I b,.string s] 31)=w1 at HG1⊢;refine(HV.out _).mono ?_;rintro e' w2 ⟨rfl,hg⟩;have HG2:=hide (HG1.out.trans hg);clear hg HG1 HV
 go_wp2
 go_ret;exact⟨rfl,HG2.out⟩
end
end Go.Proofs.YthmdjhfbhbheeaaGreatDoor
