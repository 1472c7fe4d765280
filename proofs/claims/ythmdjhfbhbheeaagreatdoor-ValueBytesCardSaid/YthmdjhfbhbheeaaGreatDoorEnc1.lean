import Derived.WalkKit
import Derived.Test.YthmdjhfbhbheeaaGreatDoorShB5
import Derived.Test.YthmdjhfbhbheeaaGreatDoorShelf2
namespace Go.Proofs.YthmdjhfbhbheeaaGreatDoor
open Go.Proofs.Tryz
set_option maxHeartbeats 4000000
set_option maxRecDepth 100000
section
open Go.RowKit Go.Lib Go.Shelf
theorem zO6:R64 0:=by unfold R64;omega
theorem zXB:R64 1:=by unfold R64;omega
theorem zOh(l:List UInt8):R64 (whO l):=by
 have hp:(2:Nat)^(64-1)=9223372036854775808:=by decide
 unfold whO
 split
 ·rename_i v h
  unfold parseIntB at h
  cases l with
  | nil=>simp at h
  | cons c r=>
   simp only at h
   split at h
   iterate 2
    ·simp at h
   ·rename_i x _
    rw[hp] at h
    by_cases hc:c.toNat=45
    ·simp only[hc,not_true_eq_false,false_and,if_false,true_and,if_true] at h
     split at h
     ·simp at h
     ·injection h with h
      unfold R64;omega
    ·simp only[hc,not_false_eq_true,true_and,false_and,if_false] at h
     split at h
     ·simp at h
     ·injection h with h
      unfold R64;omega
 ·exact zO6
 ·unfold intSat
  rw[hp]
  split<;>(unfold R64;omega)
theorem zBy(u:ByteArray):u.toList=u.data.toList:=toList_data u
theorem zNs(c:UInt8)(l:List UInt8):hasPrefix l [c]=true→∃r,l=c::r:=by
 intro h;obtain⟨r,e⟩:=List.isPrefixOf_iff_prefix.1 h;exact⟨r,e.symm⟩
theorem zFw(c:UInt8)(l:List UInt8)(h:hasPrefix l [c]=false):∀d r,l=d::r→d.toNat≠c.toNat:=by
 intro d r e hd;have:d=c:=UInt8.toNat_inj.1 hd;subst this;subst e;simp[hasPrefix] at h
theorem zWg(c:UInt8)(l:List UInt8):hasSuffix l [c]=true→∃r,l=r++[c]:=by
 intro h;obtain⟨r,e⟩:=List.isSuffixOf_iff_suffix.1 h;exact⟨r,e.symm⟩
theorem zWh(c:UInt8)(l:List UInt8)(h:hasSuffix l [c]=false):∀r,l≠r++[c]:=by
 intro r e;have:hasSuffix l [c]=true:=List.isSuffixOf_iff_suffix.2 ⟨r,e.symm⟩;rw[h] at this;exact absurd this (by decide)
theorem gt_0(u:ByteArray)(_hs:u.size≤140737488351232)(w:World)(hE:Env w)(hn:(u.toList==[110,117,108,108])=true):Calls prog 101 #[.string u] w fun e w'=>∃k a b s,e=.returned (V k a b s)∧TG u.data.toList k a b s∧R64 a∧G w w':=by
 have HE:Hid _:=hE;clear hE
 go_enter func101,ntmps101
 go_wp2_with fail
 refine bodyPost_ret (v:=V 0 0 0 E0) (by simp[results,results101,go_sem]) rfl ⟨0,0,0,E0,rfl,?_,zO6,by repeat(first|exact G.refl _|refine G.alloc ?_ _|refine G.setCell ?_ (Nat.le_refl _) _)⟩;rw[←zBy,eq_of_beq hn];exact zRQ
theorem gt_1(u:ByteArray)(_hs:u.size≤140737488351232)(w:World)(hE:Env w)(hn:(u.toList==[110,117,108,108])=false)(hf:(u.toList==[102,97,108,115,101])=true):Calls prog 101 #[.string u] w fun e w'=>∃k a b s,e=.returned (V k a b s)∧TG u.data.toList k a b s∧R64 a∧G w w':=by
 have HE:Hid _:=hE;clear hE
 go_enter func101,ntmps101
 go_wp2_with fail
 refine bodyPost_ret (v:=V 1 0 0 E0) (by simp[results,results101,go_sem]) rfl ⟨1,0,0,E0,rfl,?_,zO6,by repeat(first|exact G.refl _|refine G.alloc ?_ _|refine G.setCell ?_ (Nat.le_refl _) _)⟩;rw[←zBy,eq_of_beq hf];exact zFK false
theorem gt_2(u:ByteArray)(_hs:u.size≤140737488351232)(w:World)(hE:Env w)(hn:(u.toList==[110,117,108,108])=false)(hf:(u.toList==[102,97,108,115,101])=false)(ht:(u.toList==[116,114,117,101])=true):Calls prog 101 #[.string u] w fun e w'=>∃k a b s,e=.returned (V k a b s)∧TG u.data.toList k a b s∧R64 a∧G w w':=by
 have HE:Hid _:=hE;clear hE
 go_enter func101,ntmps101
 go_wp2_with fail
 refine bodyPost_ret (v:=V 1 1 0 E0) (by simp[results,results101,go_sem]) rfl ⟨1,1,0,E0,rfl,?_,zXB,by repeat(first|exact G.refl _|refine G.alloc ?_ _|refine G.setCell ?_ (Nat.le_refl _) _)⟩;rw[←zBy,eq_of_beq ht];exact zFK true
theorem gt_3(u:ByteArray)(hs:u.size≤140737488351232)(w:World)(hE:Env w)(hn:(u.toList==[110,117,108,108])=false)(hf:(u.toList==[102,97,108,115,101])=false)(ht:(u.toList==[116,114,117,101])=false)(hq:hasPrefix u.data.toList [39]=true):Calls prog 101 #[.string u] w fun e w'=>∃k a b s,e=.returned (V k a b s)∧TG u.data.toList k a b s∧R64 a∧G w w':=by
 have HE:Hid _:=hE;clear hE
 have Hq:Hid (∀w,Calls prog 118 #[.string u,.string ⟨#[39]⟩] w fun e w'=>e=.returned (.bool true)∧w'=w):=fun w=>by
  have:=Any.strings_HasPrefix Tryz.laysHasPrefix u ⟨#[39]⟩ w
  rwa [show(⟨#[39]⟩:ByteArray).data.toList=[39] from rfl,hq] at this
 have HK0:Hid (KB w (w.alloc (.cells #[I 0,I 0,I 0,.string E0] 31))):=⟨fun o=>by simp,fun o=>by simp,(G.refl w).alloc _,by simp⟩
 have hsi:(strU (innr u.data.toList)).size≤u.size:=by
  show(innr u.data.toList).toArray.size≤u.data.size;simp[innr];omega
 have Hin:Hid (∀w,Calls prog 132 #[.string u] w fun e w'=>e=.returned (.string (strU (innr u.data.toList)))∧w'=w):=fun w=>zEN u (by omega) w;obtain⟨r,hr⟩:=zNs _ _ hq
 have HX:Hid (∀W,G w W→Calls prog 131 #[.string (strU (innr u.data.toList))] W fun e w'=>∃t:ByteArray,e=.returned (.string t)∧(∀l0,innr u.data.toList=escS l0→t.data.toList=l0)∧G W w'):=fun W g=>by
  refine(zLb _ (by omega) W (HE.out.G g)).mono ?_;rintro e w' ⟨t,he,ht,-,hg⟩;exact⟨t,he,fun l0 h=>ht l0 ((zAK _).trans h),hg⟩
 have HT:Hid (∀t:ByteArray,(∀l0,innr u.data.toList=escS l0→t.data.toList=l0)→TG u.data.toList 4 0 0 t):=fun t h=>by
  rw[hr] at h⊢;exact zQ0 h
 clear hr hsi;clear hq
 go_enter func101,ntmps101
 go_wp2_with fail
 refine(Hq.out _).mono ?_;rintro e w1 ⟨rfl,hw⟩;rw[hw];clear hw w1
 go_wp2_with fail
 refine(Hin.out _).mono ?_;rintro e w1 ⟨rfl,hw⟩;rw[hw];clear hw w1
 go_wp2_with fail
 generalize w.alloc (.cells #[I 0,I 0,I 0,.string E0] 31)=wa at HK0⊢;refine(HX.out _ HK0.out.g).mono ?_;rintro e w3 ⟨t,rfl,ht,hb⟩;have hkA:KB w w3:=KB.G HK0.out hb;have hcA:=hkA.c;have hfA:=hkA.f;clear hb HK0
 go_wp2
 refine bodyPost_ret (v:=V 4 0 0 t) (by simp[results,results101,go_sem,hcA]) rfl ⟨4,0,0,t,rfl,HT.out t ht,zO6,by repeat(first|exact hkA.g|exact G.refl _|refine G.alloc ?_ _|refine G.setCell ?_ (Nat.le_refl _) _)⟩
theorem gt_4(u:ByteArray)(hs:u.size≤140737488351232)(w:World)(hE:Env w)(hn:(u.toList==[110,117,108,108])=false)(hf:(u.toList==[102,97,108,115,101])=false)(ht:(u.toList==[116,114,117,101])=false)(hq:hasPrefix u.data.toList [39]=false)(hp:hasPrefix u.data.toList [40]=true):Calls prog 101 #[.string u] w fun e w'=>∃k a b s,e=.returned (V k a b s)∧TG u.data.toList k a b s∧R64 a∧G w w':=by
 have HE:Hid _:=hE;clear hE
 have Hq:Hid (∀w,Calls prog 118 #[.string u,.string ⟨#[39]⟩] w fun e w'=>e=.returned (.bool false)∧w'=w):=fun w=>by
  have:=Any.strings_HasPrefix Tryz.laysHasPrefix u ⟨#[39]⟩ w
  rwa [show(⟨#[39]⟩:ByteArray).data.toList=[39] from rfl,hq] at this
 have Hp:Hid (∀w,Calls prog 118 #[.string u,.string ⟨#[40]⟩] w fun e w'=>e=.returned (.bool true)∧w'=w):=fun w=>by
  have:=Any.strings_HasPrefix Tryz.laysHasPrefix u ⟨#[40]⟩ w
  rwa [show(⟨#[40]⟩:ByteArray).data.toList=[40] from rfl,hp] at this
 have HK0:Hid (KB w (w.alloc (.cells #[I 0,I 0,I 0,.string E0] 31))):=⟨fun o=>by simp,fun o=>by simp,(G.refl w).alloc _,by simp⟩
 have hsi:(strU (innr u.data.toList)).size≤u.size:=by
  show(innr u.data.toList).toArray.size≤u.data.size;simp[innr];omega
 have Hin:Hid (∀w,Calls prog 132 #[.string u] w fun e w'=>e=.returned (.string (strU (innr u.data.toList)))∧w'=w):=fun w=>zEN u (by omega) w;obtain⟨r,hr⟩:=zNs _ _ hp
 have HX:Hid (∀W,G w W→CG 133 #[.string (strU (innr u.data.toList))] W (.int .i64 (whO (innr u.data.toList)))):=fun W g=>by
  have:=zGo (strU (innr u.data.toList)) (by omega) W (HE.out.G g)
  rwa [zAK] at this
 have HT:Hid (TG u.data.toList 5 (whO (innr u.data.toList)) 0 E0∧R64 (whO (innr u.data.toList))):=by
  have:=zUM 40 5 (.inl ⟨rfl,rfl⟩) r;rw[←hr] at this;exact⟨this,zOh _⟩
 generalize whO (innr u.data.toList)=x at HX HT;clear hr hsi;clear hq hp
 go_enter func101,ntmps101
 go_wp2_with fail
 refine(Hq.out _).mono ?_;rintro e w1 ⟨rfl,hw⟩;rw[hw];clear hw w1
 go_wp2_with fail
 refine(Hp.out _).mono ?_;rintro e w1 ⟨rfl,hw⟩;rw[hw];clear hw w1
 go_wp2_with fail
 refine(Hin.out _).mono ?_;rintro e w1 ⟨rfl,hw⟩;rw[hw];clear hw w1
 go_wp2_with fail
 generalize w.alloc (.cells #[I 0,I 0,I 0,.string E0] 31)=wa at HK0⊢;refine(HX.out _ HK0.out.g).mono ?_;rintro e w3 ⟨rfl,hb⟩;have hkA:KB w w3:=KB.G HK0.out hb;have hcA:=hkA.c;have hfA:=hkA.f;clear hb HK0
 go_wp2
 refine bodyPost_ret (v:=V 5 x 0 E0) (by simp[results,results101,go_sem,hcA]) rfl ⟨5,x,0,E0,rfl,HT.out.1,HT.out.2,by repeat(first|exact hkA.g|exact G.refl _|refine G.alloc ?_ _|refine G.setCell ?_ (Nat.le_refl _) _)⟩
theorem gt_5(u:ByteArray)(hs:u.size≤140737488351232)(w:World)(hE:Env w)(hn:(u.toList==[110,117,108,108])=false)(hf:(u.toList==[102,97,108,115,101])=false)(ht:(u.toList==[116,114,117,101])=false)(hq:hasPrefix u.data.toList [39]=false)(hp:hasPrefix u.data.toList [40]=false)(hb:hasPrefix u.data.toList [91]=true):Calls prog 101 #[.string u] w fun e w'=>∃k a b s,e=.returned (V k a b s)∧TG u.data.toList k a b s∧R64 a∧G w w':=by
 have HE:Hid _:=hE;clear hE
 have Hq:Hid (∀w,Calls prog 118 #[.string u,.string ⟨#[39]⟩] w fun e w'=>e=.returned (.bool false)∧w'=w):=fun w=>by
  have:=Any.strings_HasPrefix Tryz.laysHasPrefix u ⟨#[39]⟩ w
  rwa [show(⟨#[39]⟩:ByteArray).data.toList=[39] from rfl,hq] at this
 have Hp:Hid (∀w,Calls prog 118 #[.string u,.string ⟨#[40]⟩] w fun e w'=>e=.returned (.bool false)∧w'=w):=fun w=>by
  have:=Any.strings_HasPrefix Tryz.laysHasPrefix u ⟨#[40]⟩ w
  rwa [show(⟨#[40]⟩:ByteArray).data.toList=[40] from rfl,hp] at this
 have Hb:Hid (∀w,Calls prog 118 #[.string u,.string ⟨#[91]⟩] w fun e w'=>e=.returned (.bool true)∧w'=w):=fun w=>by
  have:=Any.strings_HasPrefix Tryz.laysHasPrefix u ⟨#[91]⟩ w
  rwa [show(⟨#[91]⟩:ByteArray).data.toList=[91] from rfl,hb] at this
 have HK0:Hid (KB w (w.alloc (.cells #[I 0,I 0,I 0,.string E0] 31))):=⟨fun o=>by simp,fun o=>by simp,(G.refl w).alloc _,by simp⟩
 have hsi:(strU (innr u.data.toList)).size≤u.size:=by
  show(innr u.data.toList).toArray.size≤u.data.size;simp[innr];omega
 have Hin:Hid (∀w,Calls prog 132 #[.string u] w fun e w'=>e=.returned (.string (strU (innr u.data.toList)))∧w'=w):=fun w=>zEN u (by omega) w;obtain⟨r,hr⟩:=zNs _ _ hb
 have HX:Hid (∀W,G w W→CG 133 #[.string (strU (innr u.data.toList))] W (.int .i64 (whO (innr u.data.toList)))):=fun W g=>by
  have:=zGo (strU (innr u.data.toList)) (by omega) W (HE.out.G g)
  rwa [zAK] at this
 have HT:Hid (TG u.data.toList 6 (whO (innr u.data.toList)) 0 E0∧R64 (whO (innr u.data.toList))):=by
  have:=zUM 91 6 (.inr ⟨rfl,rfl⟩) r;rw[←hr] at this;exact⟨this,zOh _⟩
 generalize whO (innr u.data.toList)=x at HX HT;clear hr hsi;clear hq hp hb
 go_enter func101,ntmps101
 go_wp2_with fail
 refine(Hq.out _).mono ?_;rintro e w1 ⟨rfl,hw⟩;rw[hw];clear hw w1
 go_wp2_with fail
 refine(Hp.out _).mono ?_;rintro e w1 ⟨rfl,hw⟩;rw[hw];clear hw w1
 go_wp2_with fail
 refine(Hb.out _).mono ?_;rintro e w1 ⟨rfl,hw⟩;rw[hw];clear hw w1
 go_wp2_with fail
 refine(Hin.out _).mono ?_;rintro e w1 ⟨rfl,hw⟩;rw[hw];clear hw w1
 go_wp2_with fail
 generalize w.alloc (.cells #[I 0,I 0,I 0,.string E0] 31)=wa at HK0⊢;refine(HX.out _ HK0.out.g).mono ?_;rintro e w3 ⟨rfl,hb⟩;have hkA:KB w w3:=KB.G HK0.out hb;have hcA:=hkA.c;have hfA:=hkA.f;clear hb HK0
 go_wp2
 refine bodyPost_ret (v:=V 6 x 0 E0) (by simp[results,results101,go_sem,hcA]) rfl ⟨6,x,0,E0,rfl,HT.out.1,HT.out.2,by repeat(first|exact hkA.g|exact G.refl _|refine G.alloc ?_ _|refine G.setCell ?_ (Nat.le_refl _) _)⟩
theorem gt_6(u:ByteArray)(hs:u.size≤140737488351232)(w:World)(hE:Env w)(hn:(u.toList==[110,117,108,108])=false)(hf:(u.toList==[102,97,108,115,101])=false)(ht:(u.toList==[116,114,117,101])=false)(hq:hasPrefix u.data.toList [39]=false)(hp:hasPrefix u.data.toList [40]=false)(hb:hasPrefix u.data.toList [91]=false)(hi:hasSuffix u.data.toList [105]=true):Calls prog 101 #[.string u] w fun e w'=>∃k a b s,e=.returned (V k a b s)∧TG u.data.toList k a b s∧R64 a∧G w w':=by
 have HE:Hid _:=hE;clear hE
 have Hq:Hid (∀w,Calls prog 118 #[.string u,.string ⟨#[39]⟩] w fun e w'=>e=.returned (.bool false)∧w'=w):=fun w=>by
  have:=Any.strings_HasPrefix Tryz.laysHasPrefix u ⟨#[39]⟩ w
  rwa [show(⟨#[39]⟩:ByteArray).data.toList=[39] from rfl,hq] at this
 have Hp:Hid (∀w,Calls prog 118 #[.string u,.string ⟨#[40]⟩] w fun e w'=>e=.returned (.bool false)∧w'=w):=fun w=>by
  have:=Any.strings_HasPrefix Tryz.laysHasPrefix u ⟨#[40]⟩ w
  rwa [show(⟨#[40]⟩:ByteArray).data.toList=[40] from rfl,hp] at this
 have Hb:Hid (∀w,Calls prog 118 #[.string u,.string ⟨#[91]⟩] w fun e w'=>e=.returned (.bool false)∧w'=w):=fun w=>by
  have:=Any.strings_HasPrefix Tryz.laysHasPrefix u ⟨#[91]⟩ w
  rwa [show(⟨#[91]⟩:ByteArray).data.toList=[91] from rfl,hb] at this
 have Hi:Hid (∀w,Calls prog 119 #[.string u,.string ⟨#[105]⟩] w fun e w'=>e=.returned (.bool true)∧w'=w):=fun w=>by
  have:=Any.strings_HasSuffix Tryz.laysHasSuffix u ⟨#[105]⟩ w (by omega)
  rwa [show(⟨#[105]⟩:ByteArray).data.toList=[105] from rfl,hi] at this
 have HK0:Hid (KB w (w.alloc (.cells #[I 0,I 0,I 0,.string E0] 31))):=⟨fun o=>by simp,fun o=>by simp,(G.refl w).alloc _,by simp⟩;obtain⟨r,hr⟩:=zWg _ _ hi
 have htr:trimSuffix u.data.toList [105]=r:=by
  unfold trimSuffix;rw[if_pos hi,hr];simp
 have hsr:(strU r).size≤u.size:=by
  show r.toArray.size≤u.data.size;rw[←Array.length_toList (xs:=u.data),hr];simp
 have Htr:Hid (∀w,Calls prog 135 #[.string u,.string ⟨#[105]⟩] w fun e w'=>e=.returned (.string (strU r))∧w'=w):=fun w=>by
  have:=Any.strings_TrimSuffix Tryz.laysTrimSuffix u ⟨#[105]⟩ w (by omega)
  rwa [show(⟨#[105]⟩:ByteArray).data.toList=[105] from rfl,htr] at this
 obtain⟨n,hn0,hgc⟩:=zWo (strU r) (by omega);rw[zAK] at hn0 hgc;have HX:Hid (∀W,G w W→CG 134 #[.string (strU r)] W (V 3 (whO (r.take n)) (whO (r.drop n)) E0)):=fun W g=>hgc W (HE.out.G g)
 have HT:Hid (TG u.data.toList 3 (whO (r.take n)) (whO (r.drop n)) E0∧R64 (whO (r.take n))):=by
  refine⟨?_,zOh _⟩;have h3:∀c s,u.data.toList=c::s→c.toNat≠39∧c.toNat≠40∧c.toNat≠91:=fun c s e=>⟨zFw 39 _ hq c s e,zFw 40 _ hp c s e,zFw 91 _ hb c s e⟩;rw[hr] at h3⊢;exact zUN hn0 h3
 generalize whO (r.take n)=x at HX HT;generalize whO (r.drop n)=y at HX HT;clear hr htr hsr hgc hn0;clear hq hp hb hi
 go_enter func101,ntmps101
 go_wp2_with fail
 refine(Hq.out _).mono ?_;rintro e w1 ⟨rfl,hw⟩;rw[hw];clear hw w1
 go_wp2_with fail
 refine(Hp.out _).mono ?_;rintro e w1 ⟨rfl,hw⟩;rw[hw];clear hw w1
 go_wp2_with fail
 refine(Hb.out _).mono ?_;rintro e w1 ⟨rfl,hw⟩;rw[hw];clear hw w1
 go_wp2_with fail
 refine(Hi.out _).mono ?_;rintro e w1 ⟨rfl,hw⟩;rw[hw];clear hw w1
 go_wp2_with fail
 refine(Htr.out _).mono ?_;rintro e w1 ⟨rfl,hw⟩;rw[hw];clear hw w1
 go_wp2_with fail
 generalize w.alloc (.cells #[I 0,I 0,I 0,.string E0] 31)=wa at HK0⊢;refine(HX.out _ HK0.out.g).mono ?_;rintro e w3 ⟨rfl,hb⟩;have hkA:KB w w3:=KB.G HK0.out hb;have hcA:=hkA.c;have hfA:=hkA.f;clear hb HK0
 go_wp2
 refine bodyPost_ret (v:=V 3 x y E0) (by simp[results,results101,go_sem,hcA]) rfl ⟨3,x,y,E0,rfl,HT.out.1,HT.out.2,by repeat(first|exact hkA.g|exact G.refl _|refine G.alloc ?_ _|refine G.setCell ?_ (Nat.le_refl _) _)⟩
theorem gt_7(u:ByteArray)(hs:u.size≤140737488351232)(w:World)(hE:Env w)(hn:(u.toList==[110,117,108,108])=false)(hf:(u.toList==[102,97,108,115,101])=false)(ht:(u.toList==[116,114,117,101])=false)(hq:hasPrefix u.data.toList [39]=false)(hp:hasPrefix u.data.toList [40]=false)(hb:hasPrefix u.data.toList [91]=false)(hi:hasSuffix u.data.toList [105]=false):Calls prog 101 #[.string u] w fun e w'=>∃k a b s,e=.returned (V k a b s)∧TG u.data.toList k a b s∧R64 a∧G w w':=by
 have HE:Hid _:=hE;clear hE
 have Hq:Hid (∀w,Calls prog 118 #[.string u,.string ⟨#[39]⟩] w fun e w'=>e=.returned (.bool false)∧w'=w):=fun w=>by
  have:=Any.strings_HasPrefix Tryz.laysHasPrefix u ⟨#[39]⟩ w
  rwa [show(⟨#[39]⟩:ByteArray).data.toList=[39] from rfl,hq] at this
 have Hp:Hid (∀w,Calls prog 118 #[.string u,.string ⟨#[40]⟩] w fun e w'=>e=.returned (.bool false)∧w'=w):=fun w=>by
  have:=Any.strings_HasPrefix Tryz.laysHasPrefix u ⟨#[40]⟩ w
  rwa [show(⟨#[40]⟩:ByteArray).data.toList=[40] from rfl,hp] at this
 have Hb:Hid (∀w,Calls prog 118 #[.string u,.string ⟨#[91]⟩] w fun e w'=>e=.returned (.bool false)∧w'=w):=fun w=>by
  have:=Any.strings_HasPrefix Tryz.laysHasPrefix u ⟨#[91]⟩ w
  rwa [show(⟨#[91]⟩:ByteArray).data.toList=[91] from rfl,hb] at this
 have Hi:Hid (∀w,Calls prog 119 #[.string u,.string ⟨#[105]⟩] w fun e w'=>e=.returned (.bool false)∧w'=w):=fun w=>by
  have:=Any.strings_HasSuffix Tryz.laysHasSuffix u ⟨#[105]⟩ w (by omega)
  rwa [show(⟨#[105]⟩:ByteArray).data.toList=[105] from rfl,hi] at this
 have HK0:Hid (KB w (w.alloc (.cells #[I 0,I 0,I 0,.string E0] 31))):=⟨fun o=>by simp,fun o=>by simp,(G.refl w).alloc _,by simp⟩;have HX:Hid (∀W,G w W→CG 133 #[.string u] W (.int .i64 (whO u.data.toList))):=fun W g=>zGo u (by omega) W (HE.out.G g)
 have HT:Hid (TG u.data.toList 2 (whO u.data.toList) 0 E0∧R64 (whO u.data.toList)):=by
  refine⟨?_,zOh _⟩
  have nb:∀l:List UInt8,(u.toList==l)=false→u.data.toList≠l:=fun l h e=>by rw[←zBy] at e;rw[e] at h;simp at h
  exact zOm (nb _ hn) (nb _ ht) (nb _ hf) (fun c s e=>⟨zFw 39 _ hq c s e,zFw 40 _ hp c s e,zFw 91 _ hb c s e⟩) (zWh 105 _ hi)
 generalize whO u.data.toList=x at HX HT;clear hq hp hb hi
 go_enter func101,ntmps101
 go_wp2_with fail
 refine(Hq.out _).mono ?_;rintro e w1 ⟨rfl,hw⟩;rw[hw];clear hw w1
 go_wp2_with fail
 refine(Hp.out _).mono ?_;rintro e w1 ⟨rfl,hw⟩;rw[hw];clear hw w1
 go_wp2_with fail
 refine(Hb.out _).mono ?_;rintro e w1 ⟨rfl,hw⟩;rw[hw];clear hw w1
 go_wp2_with fail
 refine(Hi.out _).mono ?_;rintro e w1 ⟨rfl,hw⟩;rw[hw];clear hw w1
 go_wp2_with fail
 generalize w.alloc (.cells #[I 0,I 0,I 0,.string E0] 31)=wa at HK0⊢;refine(HX.out _ HK0.out.g).mono ?_;rintro e w3 ⟨rfl,hb⟩;have hkA:KB w w3:=KB.G HK0.out hb;have hcA:=hkA.c;have hfA:=hkA.f;clear hb HK0
 go_wp2
 refine bodyPost_ret (v:=V 2 x 0 E0) (by simp[results,results101,go_sem,hcA]) rfl ⟨2,x,0,E0,rfl,HT.out.1,HT.out.2,by repeat(first|exact hkA.g|exact G.refl _|refine G.alloc ?_ _|refine G.setCell ?_ (Nat.le_refl _) _)⟩
theorem zWk(u:ByteArray)(hs:u.size≤140737488351232)(w:World)(hE:Env w):Calls prog 101 #[.string u] w fun e w'=>∃k a b s,e=.returned (V k a b s)∧TG u.data.toList k a b s∧R64 a∧G w w':=by
 cases hn:(u.toList==[110,117,108,108])with
 | true=>exact gt_0 u hs w hE hn
 | false=>
 cases hf:(u.toList==[102,97,108,115,101])with
 | true=>exact gt_1 u hs w hE hn hf
 | false=>
 cases ht:(u.toList==[116,114,117,101])with
 | true=>exact gt_2 u hs w hE hn hf ht
 | false=>
 cases hq:hasPrefix u.data.toList [39] with
 | true=>exact gt_3 u hs w hE hn hf ht hq
 | false=>
 cases hp:hasPrefix u.data.toList [40] with
 | true=>exact gt_4 u hs w hE hn hf ht hq hp
 | false=>
 cases hb:hasPrefix u.data.toList [91] with
 | true=>exact gt_5 u hs w hE hn hf ht hq hp hb
 | false=>
 cases hi:hasSuffix u.data.toList [105] with
 | true=>exact gt_6 u hs w hE hn hf ht hq hp hb hi
 | false=>exact gt_7 u hs w hE hn hf ht hq hp hb hi
end
section
open Go.RowKit Go.Lib Go.Shelf
structure KC(w w1:World)(k a b:Int)(s:ByteArray)(W:World):Prop where
 kb:KB w W
 c:∀o,W.cell? {block:=w1.heap.size,off:=o}=[I k,I a,I b,.string s][o]?
 f:∀o,W.frozen? {block:=w1.heap.size,off:=o}=false
 z:w1.heap.size<W.heap.size
theorem KC.G{w w1:World}{k a b:Int}{s:ByteArray}{W W':World}(h:KC w w1 k a b s W)(g:G W W'):KC w w1 k a b s W':=⟨h.kb.G g,G.cells g h.c h.z,G.frozens g h.f h.z,Nat.lt_of_lt_of_le h.z g.size⟩
def ScA(t:List UInt8)(x:Value):Prop:=
 (∃k a b s,okV k a b s=true∧R64 a∧litV k a b s=t∧TG t k a b s∧x=.tuple #[V k a b s,.int .i64 0])∨
 ((∀k a b s,okV k a b s=true→R64 a→R64 b→t≠litV k a b s)∧x=.tuple #[V 0 0 0 E0,.int .i64 14])
theorem zOw(u:ByteArray)(hs:u.size≤140737488351232)(w:World)(hE:Env w):Calls prog 57 #[.string u] w fun e w'=>∃x,e=.returned x∧ScA u.data.toList x∧G w w':=by
 have HX:Hid (∀w,Env w→Calls prog 101 #[.string u] w fun e w'=>∃k a b s,e=.returned (V k a b s)∧TG u.data.toList k a b s∧R64 a∧G w w'):=fun w h=>zWk u hs w h;have HE:Hid _:=hE;clear hE hs;have HK0:Hid (KB w (w.alloc (.cells #[I 0,I 0,I 0,.string E0] 31))):=⟨fun o=>by simp,fun o=>by simp,(G.refl w).alloc _,by simp⟩
 go_enter func57,ntmps57
 go_wp2_with fail
 generalize w.alloc (.cells #[I 0,I 0,I 0,.string E0] 31)=wa at HK0⊢;refine(HX.out _ (HE.out.G HK0.out.g)).mono ?_;rintro e w1 ⟨k,a,b,s,rfl,htg,hra,hb⟩;have HKA:Hid (KB w w1):=KB.G HK0.out hb;clear hb HK0;have HI:Hid (∀w,Tabs w→CG 25 #[V k a b s] w (.tuple #[zAb k a b s,.bool (okV k a b s)])):=zAi k a b s
 cases hok:okV k a b s with
 | false=>
  rw[hok] at HI
  have HT:Hid (ScA u.data.toList (.tuple #[V 0 0 0 E0,.int .i64 14])):=.inr ⟨fun k0 a0 b0 s0 h ha hb he=>by
   obtain⟨rfl,rfl,rfl,rfl⟩:=htg k0 a0 b0 s0 h ha hb he
   rw[hok] at h;exact absurd h (by decide),rfl⟩
  clear htg hra hok;generalize zAb k a b s=x at HI;have HKC:Hid (KC w w1 k a b s (w1.alloc (.cells #[I k,I a,I b,.string s] 31))):=⟨HKA.out.G ((G.refl _).alloc _),fun o=>by simp,fun o=>by simp,by simp⟩
  go_wp2_with fail
  generalize w1.alloc (.cells #[I k,I a,I b,.string s] 31)=wb at HKC⊢;refine(HI.out _ (HE.out.G HKC.out.kb.g).t).mono ?_;rintro e w2 ⟨rfl,hb⟩;have HK2:Hid (KC w w1 k a b s w2):=HKC.out.G hb;clear hb HKC HKA;have hcA:=HK2.out.kb.c;have hfA:=HK2.out.kb.f
  go_wp2
  all_goals refine bodyPost_ret (v:=.tuple #[V 0 0 0 E0,.int .i64 14]) (by simp[results,results57,go_sem,hcA]) rfl ⟨_,rfl,HT.out,by repeat(first|exact HK2.out.kb.g|refine G.setCell ?_ (Nat.le_refl _) _)⟩
 | true=>
  rw[hok] at HI;have HL:Hid _:=zJh k a b s hok hra
  cases hc:((strU (litV k a b s)).toList==u.toList)with
  | true=>
   have HT:Hid (ScA u.data.toList (.tuple #[V k a b s,.int .i64 0])):=.inl ⟨k,a,b,s,hok,hra,by
    have:=eq_of_beq hc
    rwa [zBy,zBy,zAK] at this,htg,rfl⟩
   clear htg hra hok;generalize zAb k a b s=x at HI HL;generalize litV k a b s=l at HL hc;obtain⟨t,f,y,rfl,hm,hcf,hl⟩:=HL.out;have HF:Hid _:=hl;clear hl HL;have HKC:Hid (KC w w1 k a b s (w1.alloc (.cells #[I k,I a,I b,.string s] 31))):=⟨HKA.out.G ((G.refl _).alloc _),fun o=>by simp,fun o=>by simp,by simp⟩
   go_wp2_with fail
   generalize w1.alloc (.cells #[I k,I a,I b,.string s] 31)=wb at HKC⊢;refine(HI.out _ (HE.out.G HKC.out.kb.g).t).mono ?_;rintro e w2 ⟨rfl,hb⟩;have HK2:Hid (KC w w1 k a b s w2):=HKC.out.G hb;clear hb HKC HKA
   go_wp2_with fail
   refine(HF.out w2 (HE.out.G HK2.out.kb.g)).mono ?_;rintro e w3 ⟨rfl,hb⟩;have HK3:Hid (KC w w1 k a b s w3):=HK2.out.G hb;clear hb HK2;have hcA:=HK3.out.kb.c;have hfA:=HK3.out.kb.f;have hcB:=HK3.out.c
   go_wp2
   all_goals refine bodyPost_ret (v:=.tuple #[V k a b s,.int .i64 0]) (by simp[results,results57,go_sem,hcA]) rfl ⟨_,rfl,HT.out,by repeat(first|exact HK3.out.kb.g|refine G.setCell ?_ (Nat.le_refl _) _)⟩
  | false=>
   have HT:Hid (ScA u.data.toList (.tuple #[V 0 0 0 E0,.int .i64 14])):=.inr ⟨fun k0 a0 b0 s0 h ha hb he=>by
    obtain⟨rfl,rfl,rfl,rfl⟩:=htg k0 a0 b0 s0 h ha hb he;rw[zBy,zBy,zAK,he] at hc
    simp at hc,rfl⟩
   clear htg hra hok;generalize zAb k a b s=x at HI HL;generalize litV k a b s=l at HL hc;obtain⟨t,f,y,rfl,hm,hcf,hl⟩:=HL.out;have HF:Hid _:=hl;clear hl HL;have HKC:Hid (KC w w1 k a b s (w1.alloc (.cells #[I k,I a,I b,.string s] 31))):=⟨HKA.out.G ((G.refl _).alloc _),fun o=>by simp,fun o=>by simp,by simp⟩
   go_wp2_with fail
   generalize w1.alloc (.cells #[I k,I a,I b,.string s] 31)=wb at HKC⊢;refine(HI.out _ (HE.out.G HKC.out.kb.g).t).mono ?_;rintro e w2 ⟨rfl,hb⟩;have HK2:Hid (KC w w1 k a b s w2):=HKC.out.G hb;clear hb HKC HKA
   go_wp2_with fail
   refine(HF.out w2 (HE.out.G HK2.out.kb.g)).mono ?_;rintro e w3 ⟨rfl,hb⟩;have HK3:Hid (KC w w1 k a b s w3):=HK2.out.G hb;clear hb HK2;have hcA:=HK3.out.kb.c;have hfA:=HK3.out.kb.f;have hcB:=HK3.out.c
   go_wp2
   all_goals refine bodyPost_ret (v:=.tuple #[V 0 0 0 E0,.int .i64 14]) (by simp[results,results57,go_sem,hcA]) rfl ⟨_,rfl,HT.out,by repeat(first|exact HK3.out.kb.g|refine G.setCell ?_ (Nat.le_refl _) _)⟩
end
section
open Go.RowKit Go.Lib Go.Shelf
def ScR(t:List UInt8)(x:Value):Prop:=
 (∃k a b s,okV k a b s=true∧R64 a∧R64 b∧litV k a b s=t∧x=.tuple #[V k a b s,.int .i64 0])∨
 ((∀k a b s,okV k a b s=true→R64 a→R64 b→t≠litV k a b s)∧x=.tuple #[V 0 0 0 E0,.int .i64 14])
theorem zXL{k a b:Int}{s:ByteArray}(h:okV k a b s=true):R64 b:=by
 unfold R64
 rcases zCF h with rfl|rfl|rfl|rfl|rfl|rfl|rfl
 ·have:=(ok_0 h).2.1;omega
 ·have:=(ok_1 h).2.1;omega
 ·have:=(ok_2 h).1;omega
 ·have:=(ok_3 h).2.1;omega
 ·have:=(ok_4 h).2.1;omega
 ·have:=(zTk h).1;omega
 ·have:=(zTj h).1;omega
theorem zUQ{t:List UInt8}{x y:Value}(h1:ScA t x)(h2:ScR t y):x=y:=by
 rcases h1 with ⟨k,a,b,s,ok,ha,hl,tg,rfl⟩|⟨hn,rfl⟩<;>rcases h2 with ⟨k',a',b',s',ok',ha',hb',hl',rfl⟩|⟨hn',rfl⟩
 ·obtain⟨rfl,rfl,rfl,rfl⟩:=tg k' a' b' s' ok' ha' hb' hl'.symm
  rfl
 ·exact absurd hl.symm (hn' k a b s ok ha (zXL ok))
 ·exact absurd hl'.symm (hn k' a' b' s' ok' ha' hb')
 ·rfl
theorem zJY(u:ByteArray)(hn:(u.toList==[110,117,108,108])=true)(w:World):Calls prog 58 #[.string u] w fun e w'=>∃x,e=.returned x∧ScR u.data.toList x∧G w w':=by
 have HT:Hid (ScR u.data.toList (.tuple #[V 0 0 0 E0,.int .i64 0])):=.inl ⟨0,0,0,E0,by first|rfl|kernel_rfl|(simp[okV];done),RZ0,RZ0,by rw[←ByteArray.toList_eq,eq_of_beq hn];rfl,rfl⟩
 go_enter func58,ntmps58
 go_wp2
 refine bodyPost_ret (v:=.tuple #[V 0 0 0 E0,.int .i64 0]) (by simp[results,results58,go_sem]) rfl ⟨_,rfl,HT.out,by repeat(first|exact G.refl _|refine G.setCell ?_ (Nat.le_refl _) _|refine G.alloc ?_ _)⟩
theorem zR5(u:ByteArray)(hs:u.size≤140737488351232)(hn:(u.toList==[110,117,108,108])=false)(h0:u.size=0)(w:World):Calls prog 58 #[.string u] w fun e w'=>∃x,e=.returned x∧ScR u.data.toList x∧G w w':=by
 have hn':u.data.toList≠[110,117,108,108]:=fun e=>by rw[ByteArray.toList_eq,e] at hn;simp at hn
 have HX:=hide (fun w=>zQ3 u hs hn' w);clear hn';have HK0:Hid (KB w (w.alloc (.cells #[I 0,I 0,I 0,.string E0] 31))):=⟨fun o=>by simp,fun o=>by simp,(G.refl w).alloc _,by simp⟩
 have hue:u.toList=[]:=by
  rw[ByteArray.toList_eq];exact List.eq_nil_of_length_eq_zero (by rw[Array.length_toList];exact h0)
 have HT:Hid (ScR u.data.toList (.tuple #[V 0 0 0 E0,.int .i64 14])):=.inr ⟨fun k0 a0 b0 s0 h _ _ he=>by
  rw[←ByteArray.toList_eq,hue] at he
  exact zRf h he.symm,rfl⟩
 go_enter func58,ntmps58
 go_wp2_with fail
 generalize w.alloc (.cells #[I 0,I 0,I 0,.string E0] 31)=wa at HK0⊢;refine(HX.out _).mono ?_;rintro e w1 ⟨k,a,b,s,rfl,htg,hra,hrb,hsz,hb⟩;have HKA:Hid (KB w w1):=KB.G HK0.out hb;clear hb HK0;have HKC:Hid (KC w w1 k a b s (w1.alloc (.cells #[I k,I a,I b,.string s] 31))):=⟨HKA.out.G ((G.refl _).alloc _),fun o=>by simp,fun o=>by simp,by simp⟩;have hcA:=HKC.out.kb.c;have hfA:=HKC.out.kb.f
 go_wp2
 all_goals refine bodyPost_ret (v:=.tuple #[V 0 0 0 E0,.int .i64 14]) (by simp[results,results58,go_sem,hcA]) rfl ⟨_,rfl,HT.out,by repeat(first|exact HKC.out.kb.g|refine G.setCell ?_ (Nat.le_refl _) _)⟩
theorem zLD(u:ByteArray)(hs:u.size≤140737488351232)(hn:(u.toList==[110,117,108,108])=false)(h0:0<u.size)(w:World):Calls prog 58 #[.string u] w fun e w'=>∃x,e=.returned x∧ScR u.data.toList x∧G w w':=by
 have hn':u.data.toList≠[110,117,108,108]:=fun e=>by rw[ByteArray.toList_eq,e] at hn;simp at hn
 have HX:=hide (fun w=>zQ3 u hs hn' w);clear hn';have HK0:Hid (KB w (w.alloc (.cells #[I 0,I 0,I 0,.string E0] 31))):=⟨fun o=>by simp,fun o=>by simp,(G.refl w).alloc _,by simp⟩
 have hne1:¬u.toList=[]:=fun e=>by
  rw[ByteArray.toList_eq] at e;have h1:=congrArg List.length e;rw[Array.length_toList] at h1;have h2:u.size=0:=h1;omega
 have hne2:(u.toList==[])=false:=beq_false_of_ne hne1
 have hne3:u.toList.isEmpty=false:=by cases h:u.toList with
  | nil=>exact absurd h hne1
  | cons _ _=>rfl
 go_enter func58,ntmps58
 go_wp2_with fail
 generalize w.alloc (.cells #[I 0,I 0,I 0,.string E0] 31)=wa at HK0⊢;refine(HX.out _).mono ?_;rintro e w1 ⟨k,a,b,s,rfl,htg,hra,hrb,hsz,hb⟩;have HKA:Hid (KB w w1):=KB.G HK0.out hb;clear hb HK0;have HKC:Hid (KC w w1 k a b s (w1.alloc (.cells #[I k,I a,I b,.string s] 31))):=⟨HKA.out.G ((G.refl _).alloc _),fun o=>by simp,fun o=>by simp,by simp⟩;have HV:=hide (zAm k a b s (by omega))
 cases hok:okV k a b s with
 | false=>
  rw[hok] at HV
  have HT:Hid (ScR u.data.toList (.tuple #[V 0 0 0 E0,.int .i64 14])):=.inr ⟨fun k0 a0 b0 s0 h ha hb he=>by
   obtain⟨rfl,rfl,rfl,rfl⟩:=htg k0 a0 b0 s0 h ha hb he
   rw[hok] at h;exact absurd h (by decide),rfl⟩
  clear htg hra hrb hok hsz
  go_wp2_with fail
  generalize w1.alloc (.cells #[I k,I a,I b,.string s] 31)=wb at HKC⊢;refine(HV.out _).mono ?_;rintro e w2 ⟨rfl,hb⟩;have HK2:Hid (KC w w1 k a b s w2):=HKC.out.G hb;clear hb HKC HKA;have hcA:=HK2.out.kb.c;have hfA:=HK2.out.kb.f
  go_wp2
  all_goals refine bodyPost_ret (v:=.tuple #[V 0 0 0 E0,.int .i64 14]) (by simp[results,results58,go_sem,hcA]) rfl ⟨_,rfl,HT.out,by repeat(first|exact HK2.out.kb.g|refine G.setCell ?_ (Nat.le_refl _) _)⟩
 | true=>
  rw[hok] at HV;have HF:=hide (zFe k a b s hok (by omega) hra hrb)
  cases hc:((strU (litV k a b s)).toList==u.toList)with
  | true=>
   have HT:Hid (ScR u.data.toList (.tuple #[V k a b s,.int .i64 0])):=.inl ⟨k,a,b,s,hok,hra,hrb,by
    have:=eq_of_beq hc
    rwa [ByteArray.toList_eq,ByteArray.toList_eq,zAK] at this,rfl⟩
   clear htg hra hrb hok hsz;generalize litV k a b s=l at HF hc
   go_wp2_with fail
   generalize w1.alloc (.cells #[I k,I a,I b,.string s] 31)=wb at HKC⊢;refine(HV.out _).mono ?_;rintro e w2 ⟨rfl,hb⟩;have HK2:Hid (KC w w1 k a b s w2):=HKC.out.G hb;clear hb HKC HKA;have hcB:=HK2.out.c
   go_wp2_with fail
   refine(HF.out w2).mono ?_;rintro e w3 ⟨rfl,hb⟩;have HK3:Hid (KC w w1 k a b s w3):=HK2.out.G hb;clear hb HK2 hcB;have hcA:=HK3.out.kb.c;have hfA:=HK3.out.kb.f;have hcB:=HK3.out.c
   go_wp2
   all_goals refine bodyPost_ret (v:=.tuple #[V k a b s,.int .i64 0]) (by simp[results,results58,go_sem,hcA]) rfl ⟨_,rfl,HT.out,by repeat(first|exact HK3.out.kb.g|refine G.setCell ?_ (Nat.le_refl _) _)⟩
  | false=>
   have HT:Hid (ScR u.data.toList (.tuple #[V 0 0 0 E0,.int .i64 14])):=.inr ⟨fun k0 a0 b0 s0 h ha hb he=>by
    obtain⟨rfl,rfl,rfl,rfl⟩:=htg k0 a0 b0 s0 h ha hb he;rw[ByteArray.toList_eq,ByteArray.toList_eq,zAK,he] at hc
    simp at hc,rfl⟩
   clear htg hra hrb hok hsz;generalize litV k a b s=l at HF hc
   go_wp2_with fail
   generalize w1.alloc (.cells #[I k,I a,I b,.string s] 31)=wb at HKC⊢;refine(HV.out _).mono ?_;rintro e w2 ⟨rfl,hb⟩;have HK2:Hid (KC w w1 k a b s w2):=HKC.out.G hb;clear hb HKC HKA;have hcB:=HK2.out.c
   go_wp2_with fail
   refine(HF.out w2).mono ?_;rintro e w3 ⟨rfl,hb⟩;have HK3:Hid (KC w w1 k a b s w3):=HK2.out.G hb;clear hb HK2 hcB;have hcA:=HK3.out.kb.c;have hfA:=HK3.out.kb.f;have hcB:=HK3.out.c
   go_wp2
   all_goals refine bodyPost_ret (v:=.tuple #[V 0 0 0 E0,.int .i64 14]) (by simp[results,results58,go_sem,hcA]) rfl ⟨_,rfl,HT.out,by repeat(first|exact HK3.out.kb.g|refine G.setCell ?_ (Nat.le_refl _) _)⟩
theorem zLE(u:ByteArray)(hs:u.size≤140737488351232)(w:World):Calls prog 58 #[.string u] w fun e w'=>∃x,e=.returned x∧ScR u.data.toList x∧G w w':=by
 cases hn:(u.toList==[110,117,108,108])with
 | true=>exact zJY u hn w
 | false=>
  by_cases h0:u.size=0
  ·exact zR5 u hs hn h0 w
  ·exact zLD u hs hn (by omega) w
end
section
open Go.RowKit Go.Lib Go.Shelf
theorem zKG(k a b:Int)(s:ByteArray)(hs:s.size≤4611686018427387904)(ha:R64 a)(hb:R64 b):∃x:ByteArray,(∀w,Env w→CG 55 #[V k a b s] w (.string x))∧(∀w,CG 56 #[V k a b s] w (.string x)):=by
 cases h:okV k a b s with
 | true=>exact⟨_,fun w hE=>zMj k a b s h ha w hE,fun w=>zFe k a b s h hs ha hb w⟩
 | false=>exact⟨_,fun w hE=>zPk k a b s h w hE,fun w=>zLF k a b s h hs w⟩
theorem zNg(op k a b:Int)(s:ByteArray)(k' a' b':Int)(s':ByteArray)(vs:Value)(st tt:ByteArray)(bb:Value)(n x y o1 o2:Int)(hs:s.size≤4611686018427387904)(ha:R64 a)(hb:R64 b)(w:World)(hE:Env w):CG 21 #[.agg #[I 6,I op,I k,I a,I b,.string s,I k',I a',I b',.string s',vs,.string st,.string tt,bb,I n,I x,I y,I o1,I o2]] w (.bool true):=by
 obtain⟨z,h1,h2⟩:=zKG k a b s hs ha hb;have H1:=hide h1;have H2:=hide h2;have HE:=hide hE;have HG1:=hide ((G.refl w).alloc (.cells #[I 6,I op,I k,I a,I b,.string s,I k',I a',I b',.string s',vs,.string st,.string tt,bb,I n,I x,I y,I o1,I o2] 35))
 have HCC:Hid (∀o,(w.alloc (.cells #[I 6,I op,I k,I a,I b,.string s,I k',I a',I b',.string s',vs,.string st,.string tt,bb,I n,I x,I y,I o1,I o2] 35)).cell? ⟨w.heap.size,o,none⟩=([I 6,I op,I k,I a,I b,.string s,I k',I a',I b',.string s',vs,.string st,.string tt,bb,I n,I x,I y,I o1,I o2]:List Value)[o]?):=fun o=>by simp
 have HZ1:Hid (w.heap.size<(w.alloc (.cells #[I 6,I op,I k,I a,I b,.string s,I k',I a',I b',.string s',vs,.string st,.string tt,bb,I n,I x,I y,I o1,I o2] 35)).heap.size):=by unfold Hid;simp
 clear h1 h2 hE
 go_enter func21,ntmps21
 go_wp2_with fail
 generalize w.alloc (.cells #[I 6,I op,I k,I a,I b,.string s,I k',I a',I b',.string s',vs,.string st,.string tt,bb,I n,I x,I y,I o1,I o2] 35)=w1 at HG1 HCC HZ1⊢;refine wp_region_noPanic ?_;refine wp_region_held_drew (S:=(fun W=>∀o,W.cell? ⟨w.heap.size,o,none⟩=([I 6,I op,I k,I a,I b,.string s,I k',I a',I b',.string s',vs,.string st,.string tt,bb,I n,I x,I y,I o1,I o2]:List Value)[o]?)) (by kernel_rfl) (HCC.out) (fun hHeld=>?_);refine wpAnyH_take (i:=0) (v:=?_) rfl (by kernel_rfl) (by kernel_rfl) (by kernel_rfl) (fun _ _ _ h=>h) (Or.inl ⟨by rfl,?_⟩) hHeld ?_;rotate_left 1
 ·(intro w hSw;(try dsimp only at hSw);go_simp;try with_reducible rfl)
 try simp only[Act.put,List.getElem_toArray,List.getElem_cons_zero,List.setIfInBounds_toArray,List.set_cons_zero,List.set_cons_succ]
 refine wpAnyH_take (i:=1) (v:=?_) rfl (by kernel_rfl) (by kernel_rfl) (by kernel_rfl) (fun _ _ _ h=>h) (Or.inl ⟨by rfl,?_⟩) hHeld ?_;rotate_left 1
 ·(intro w hSw;have q3:=hSw;go_simp;try with_reducible rfl)
 try simp only[Act.put,List.getElem_toArray,List.getElem_cons_zero,List.getElem_cons_succ,List.setIfInBounds_toArray,List.set_cons_zero,List.set_cons_succ]
 refine wpAnyH_take (i:=3) (v:=?_) rfl (by kernel_rfl) (by kernel_rfl) (by kernel_rfl) (fun _ _ _ h=>h) (Or.inl ⟨by rfl,?_⟩) hHeld ?_;rotate_left 1
 ·(intro w hSw;(try dsimp only at hSw);go_simp;try with_reducible rfl)
 try simp only[Act.put,List.getElem_toArray,List.getElem_cons_zero,List.getElem_cons_succ,List.setIfInBounds_toArray,List.set_cons_zero,List.set_cons_succ]
 refine wpAnyH_take (i:=4) (v:=?_) rfl (by kernel_rfl) (by kernel_rfl) (by kernel_rfl) (fun _ _ _ h=>h) (Or.inl ⟨by rfl,?_⟩) hHeld ?_;rotate_left 1
 ·(intro w hSw;have q3:=hSw;go_simp;try with_reducible rfl)
 try simp only[Act.put,List.getElem_toArray,List.getElem_cons_zero,List.getElem_cons_succ,List.setIfInBounds_toArray,List.set_cons_zero,List.set_cons_succ]
 refine wpAnyH_ready (rs:=[2]) (by kernel_rfl) (by simp) (AllReadyH.cons rfl (fun K hK=>?_) AllReadyH.nil);clear hHeld
 go_simp
 with_reducible refine(H1.out _ (HE.out.G (HG1.out.trans (G.drew (G.refl _))))).mono ?_
 rintro e' w3 ⟨rfl,hb'⟩;have HG3:=hide (G.trans (G.drew (G.refl _)) hb');clear hb'
 go_wp2_with fail
 refine hK.out _ _ (G.cells HG3.out HCC.out HZ1.out) (fun hHeld=>?_);clear hK K
 try simp only[Act.put,List.getElem_toArray,List.getElem_cons_zero,List.getElem_cons_succ,List.setIfInBounds_toArray,List.set_cons_zero,List.set_cons_succ]
 refine wpAnyH_ready (rs:=[5]) (by kernel_rfl) (by simp) (AllReadyH.cons rfl (fun K hK=>?_) AllReadyH.nil);clear hHeld
 go_simp
 with_reducible refine(H2.out _).mono ?_
 rintro e' w4 ⟨rfl,hb'⟩;have HG4:=hide (HG3.out.trans hb');clear hb'
 go_wp2_with fail
 refine hK.out _ _ (G.cells HG4.out HCC.out HZ1.out) (fun hHeld=>?_);clear hK K
 try simp only[Act.put,List.getElem_toArray,List.getElem_cons_zero,List.getElem_cons_succ,List.setIfInBounds_toArray,List.set_cons_zero,List.set_cons_succ]
 refine wpAnyH_take (i:=6) (v:=?_) rfl (by kernel_rfl) (by kernel_rfl) (by kernel_rfl) (fun _ _ _ h=>h) (Or.inl ⟨by rfl,?_⟩) hHeld ?_;rotate_left 1
 ·(intro w hSw;(try dsimp only at hSw);go_simp;try with_reducible rfl)
 try simp only[Act.put,List.getElem_toArray,List.getElem_cons_zero,List.getElem_cons_succ,List.setIfInBounds_toArray,List.set_cons_zero,List.set_cons_succ]
 refine wpAnyH_take (i:=7) (v:=?_) rfl (by kernel_rfl) (by kernel_rfl) (by kernel_rfl) (fun _ _ _ h=>h) (Or.inl ⟨by rfl,?_⟩) hHeld ?_;rotate_left 1
 ·(intro w hSw;(try dsimp only at hSw);go_simp;try with_reducible rfl)
 try simp only[Act.put,List.getElem_toArray,List.getElem_cons_zero,List.getElem_cons_succ,List.setIfInBounds_toArray,List.set_cons_zero,List.set_cons_succ]
 refine wpAnyH_done (by kernel_rfl) ?_ _;refine NoPanic.normal ?_
 go_wp2
 go_ret;exact⟨by simp,HG1.out.trans HG4.out⟩
theorem zPK(op k a b:Int)(s:ByteArray)(k' a' b':Int)(s':ByteArray)(vs:Value)(st tt:ByteArray)(bb:Value)(n x y o1 o2:Int)(hst:st.size≤140737488351232)(w:World)(hE:Env w):CG 21 #[.agg #[I 7,I op,I k,I a,I b,.string s,I k',I a',I b',.string s',vs,.string st,.string tt,bb,I n,I x,I y,I o1,I o2]] w (.bool true):=by
 have H1:=hide (fun w (h:Env w)=>zOw st (by omega) w h);have H2:=hide (fun w=>zLE st hst w);have HE:=hide hE;clear hE hst
 go_enter func21,ntmps21
 go_wp2_with fail
 refine(H1.out _ (HE.out.G ((G.refl w).alloc _))).mono ?_;rintro e w1 ⟨x1,rfl,hu1,hb1⟩;have hc1:∀o,w1.cell? {block:=w.heap.size,off:=o}=[I 7,I op,I k,I a,I b,.string s,I k',I a',I b',.string s',vs,.string st,.string tt,bb,I n,I x,I y,I o1,I o2][o]?:=G.cells hb1 (by simp) (by simp)
 have hz1:w.heap.size<w1.heap.size:=by have:=hb1.size;simp at this;omega
 have HG1:Hid (G w w1):=G.trans ((G.refl w).alloc _) hb1;have HU:=hide hu1;clear hb1 hu1
 obtain⟨k1,a1,b1,s1,c1,rfl⟩:∃k a b s c,x1=.tuple #[V k a b s,.int .i64 c]:=by
  rcases HU.out with ⟨k,a,b,s,_,_,_,_,rfl⟩|⟨_,rfl⟩
  iterate 2
   ·exact⟨_,_,_,_,_,rfl⟩
 go_wp2_with fail
 refine(H2.out _).mono ?_;rintro e w2 ⟨x2,rfl,hu2,hb2⟩;obtain rfl:Value.tuple #[V k1 a1 b1 s1,.int .i64 c1]=x2:=zUQ HU.out hu2;have hc2:∀o,w2.cell? {block:=w1.heap.size,off:=o}=[I k1,I a1,I b1,.string s1][o]?:=G.cells hb2 (by simp) (by simp)
 have hz2:w1.heap.size<w2.heap.size:=by have:=hb2.size;simp at this;omega
 have HG2:Hid (G w w2):=G.trans (G.trans HG1.out ((G.refl w1).alloc _)) hb2;clear hb2 hu2 HU;have heq:=eqV
 go_wp2
 go_ret;exact⟨by simp,by repeat(first|exact HG2.out|refine G.alloc ?_ _|refine G.drew ?_)⟩
theorem zS1(e:Ent)(kk:e.kind=6∨e.kind=7)(hs:e.s.size≤4611686018427387904)(ha:R64 e.a)(hb:R64 e.b)(hst:e.st.size≤140737488351232)(w:World)(hT:Env w):CG 7 #[e.V] w (.bool true):=by
 obtain⟨kind,op,k,a,b,s,k',a',b',s',vs,st,tt,bb,n,x,y,o1,o2⟩:=e;simp only at kk hs ha hb hst
 rcases kk with rfl|rfl
 ·have HF:Hid (∀w,Env w→CG 21 #[.agg #[I 6,I op,I k,I a,I b,.string s,I k',I a',I b',.string s',vs,.string st,.string tt,bb,I n,I x,I y,I o1,I o2]] w (.bool true)):=fun w h=>zNg op k a b s k' a' b' s' vs st tt bb n x y o1 o2 hs ha hb w h
  clear hs ha hb hst
  have hr:(w.alloc (.cells #[I 6,I op,I k,I a,I b,.string s,I k',I a',I b',.string s',vs,.string st,.string tt,bb,I n,I x,I y,I o1,I o2] 35)).rangeAt w.heap.size 0 [I 6,I op,I k,I a,I b,.string s,I k',I a',I b',.string s',vs,.string st,.string tt,bb,I n,I x,I y,I o1,I o2]:=fun j v hv=>by rw[Nat.zero_add];simpa using hv
  go_enter func7,ntmps7
  go_wp2_with (first|(refine wpList_load_mid rfl 35 _ rfl w.heap.size 0 rfl [I 6,I op,I k,I a,I b,.string s,I k',I a',I b',.string s',vs,.string st,.string tt,bb,I n,I x,I y,I o1,I o2] _ hr underlying35 rfl (by kernel_rfl) ?_)|(go_at_call 21;refine(HF.out _ (hT.G ((G.refl w).alloc _))).mono ?_;rintro e w1 ⟨rfl,hb1⟩))
  go_wp2
  go_ret;exact⟨rfl,((G.refl w).alloc _).trans hb1⟩
 ·have HF:Hid (∀w,Env w→CG 21 #[.agg #[I 7,I op,I k,I a,I b,.string s,I k',I a',I b',.string s',vs,.string st,.string tt,bb,I n,I x,I y,I o1,I o2]] w (.bool true)):=fun w h=>zPK op k a b s k' a' b' s' vs st tt bb n x y o1 o2 hst w h
  clear hs ha hb hst
  have hr:(w.alloc (.cells #[I 7,I op,I k,I a,I b,.string s,I k',I a',I b',.string s',vs,.string st,.string tt,bb,I n,I x,I y,I o1,I o2] 35)).rangeAt w.heap.size 0 [I 7,I op,I k,I a,I b,.string s,I k',I a',I b',.string s',vs,.string st,.string tt,bb,I n,I x,I y,I o1,I o2]:=fun j v hv=>by rw[Nat.zero_add];simpa using hv
  go_enter func7,ntmps7
  go_wp2_with (first|(refine wpList_load_mid rfl 35 _ rfl w.heap.size 0 rfl [I 7,I op,I k,I a,I b,.string s,I k',I a',I b',.string s',vs,.string st,.string tt,bb,I n,I x,I y,I o1,I o2] _ hr underlying35 rfl (by kernel_rfl) ?_)|(go_at_call 21;refine(HF.out _ (hT.G ((G.refl w).alloc _))).mono ?_;rintro e w1 ⟨rfl,hb1⟩))
  go_wp2
  go_ret;exact⟨rfl,((G.refl w).alloc _).trans hb1⟩
theorem zHs(W:World)(hT:Env W)(e:Ent)(h:zDn W e)(h1:6≤e.kind)(h2:e.kind≤7)(w':World)(g:G W w'):Calls prog 7 #[e.V] w' fun r w''=>r=.returned (.bool true)∧G w' w'':=
 zS1 e (by omega) (by have:=h.s;unfold reachBytes at this;omega) h.a h.b (by have:=h.st;unfold reachBytes at this;omega) w' (hT.G g)
end
section
abbrev bv(n:Nat):Value:=.int .u8 (n:Int)
def digs(m:Nat):List Nat:=if h:m=0 then [] else(m%256)::digs (m/256)
termination_by m
decreasing_by omega
def lows:Nat→Nat→List Nat
 | 0,_=>[]
 | k+1,x=>(x%256)::lows k (x/256)
theorem zA3(k x:Nat):(lows k x).length=k:=by
 induction k generalizing x with
 | zero=>rfl
 | succ k ih=>simp[lows,ih]
theorem zBi:digs 0=[]:=by unfold digs;simp
theorem zCj{m:Nat}(h:m≠0):digs m=(m%256)::digs (m/256):=by
 conv=>lhs;unfold digs
 simp[h]
theorem zGN(m:Nat):lows (digs m).length m=digs m:=by
 induction m using Nat.strongRecOn with
 | _ m ih=>
  by_cases h:m=0
  ·subst h;rw[zBi];rfl
  ·rw[zCj h]
   show(m%256)::lows (digs (m/256)).length (m/256)=_;rw[ih (m/256) (by omega)]
theorem zTw(k x j:Nat)(h:j<k):(lows k x)[j]?=some (x/256^j%256):=by
 induction k generalizing x j with
 | zero=>omega
 | succ k ih=>
  cases j with
  | zero=>simp[lows]
  | succ j=>
   show(lows k (x/256))[j]?=_;rw[ih (x/256) j (by omega),Nat.div_div_eq_div_mul]
   congr 3
   rw[Nat.pow_succ,Nat.mul_comm]
theorem zMJ(k x y:Nat)(h:x+y+1=256^k):∀j,j≤k→lows j y=(lows j x).map (255 - ·):=by
 induction k generalizing x y with
 | zero=>
  intro j hj
  have:j=0:=by omega
  subst this;rfl
 | succ k ih=>
  intro j hj
  cases j with
  | zero=>rfl
  | succ j=>
   rw[Nat.pow_succ] at h;have e:=ih (x/256) (y/256) (by omega) j (by omega);simp only[lows,List.map_cons,e]
   congr 1
   omega
theorem zNI(m:Nat):∀d∈digs m,d<256:=by
 induction m using Nat.strongRecOn with
 | _ m ih=>
  by_cases h:m=0
  ·subst h;rw[zBi];simp
  ·rw[zCj h]
   intro d hd
   rcases List.mem_cons.1 hd with rfl|hd
   ·exact Nat.mod_lt _ (by decide)
   ·exact ih (m/256) (by omega) d hd
theorem zBS(k m:Nat)(h:m<256^k):(digs m).length≤k:=by
 induction k generalizing m with
 | zero=>
  have:m=0:=by simpa using h
  subst this;rw[zBi];simp
 | succ k ih=>
  by_cases h0:m=0
  ·subst h0;rw[zBi];simp
  ·rw[zCj h0]
   have:=ih (m/256) (by rw[Nat.pow_succ] at h;omega)
   simp;omega
def lowB(n:Int):List Nat:=(digs n.natAbs).map fun x=>if n<0 then 255-x else x
def encW(n:Int):List Nat:=(if n<0 then 64-(lowB n).length else 64+(lowB n).length)::(lowB n).reverse
def encS(l:List Nat):List Nat:=l.flatMap fun c=>if c=0 then [0,255] else [c]
end
section
open Go.RowKit
structure PutR(w:World)(g off len k x:Nat)(W:World):Prop where
 keep:∀w0,G w0 w→w0.heap.size≤g→G w0 W
 new:∀j,len-k≤j→j<len→W.cell? ⟨g,off+j,none⟩=some (bv (x/256^(len-1-j)%256))
 old:∀o,¬(off+(len-k)≤o∧o<off+len)→W.cell? ⟨g,o,none⟩=w.cell? ⟨g,o,none⟩
 size:W.heap.size=w.heap.size
 other:∀b o,b≠g→W.cell? ⟨b,o,none⟩=w.cell? ⟨b,o,none⟩
 frozen:∀b o,W.frozen? ⟨b,o,none⟩=w.frozen? ⟨b,o,none⟩
theorem PutR.start(w:World)(g off len x:Nat):PutR w g off len 0 x w:=
 ⟨fun _ h _=>h,fun j h1 h2=>by omega,fun _ _=>rfl,rfl,fun _ _ _=>rfl,fun _ _=>rfl⟩
theorem zE5(W:World)(p:Addr)(u:Value)(a:Addr):(W.setCell p u).frozen? a=W.frozen? a:=by simp
theorem PutR.step{w W:World}{g off len k x:Nat}(h:PutR w g off len k x W)(hk:k<len)(hc:∃u,W.cell? ⟨g,off+(len-1-k),none⟩=some u) :
  PutR w g off len (k+1) x (W.setCell ⟨g,off+(len-1-k),none⟩ (bv (x/256^k%256))):=by
 obtain⟨u,hu⟩:=hc;refine⟨fun w0 h0 hg=>(h.keep w0 h0 hg).setCell hg _,fun j h1 h2=>?_,fun o ho=>?_,?_,fun b o hb=>?_,fun b o=>?_⟩
 ·by_cases e:j=len-1-k
  ·subst e
   rw[World.cell?_setCell_same _ _ _ hu]
   have:len-1-(len-1-k)=k:=by omega
   rw[this]
  ·rw[World.cell?_setCell_other _ _ _ _ (by intro he;have:=congrArg Addr.off he;simp at this;omega)]
   exact h.new j (by omega) h2
 ·rw[World.cell?_setCell_other _ _ _ _ (by intro he;have:=congrArg Addr.off he;simp at this;omega)]
  exact h.old o (by omega)
 ·rw[←h.size];simp
 ·rw[World.cell?_setCell_other _ _ _ _ (by intro he;cases he;exact hb rfl)]
  exact h.other b o hb
 ·rw[zE5];exact h.frozen b o
theorem zHP(g off len cap x:Nat)(hl:len≤1073741824)(hcap:len≤cap)(w:World)(hc:∀j,j<len→∃u,w.cell? ⟨g,off+j,none⟩=some u)(hf:∀j,j<len→w.frozen? ⟨g,off+j,none⟩=false) :
  Calls prog 110 #[.slice (some ⟨g,off,none⟩) len cap,.int .u64 x] w fun e w'=>e=.returned (.tuple #[])∧PutR w g off len len x w':=by
 have HC:Hid _:=hc;have HF:Hid _:=hf;clear hc hf
 go_enter func110,ntmps110
 go_wp2
 go_loopw [1,4] (fun n i W=>∃k:Nat,k≤len∧i=.int .i64 ((len:Int)-1-k)∧n=.int .u64 ((x/256^k:Nat):Int)∧PutR w g off len k x W) (fun _ i _=>(RowKit.intOf i+1).toNat)
 case atStart=>exact⟨0,by omega,by simp,by simp,PutR.start _ _ _ _ _⟩
 case round=>
  obtain⟨k,hk,rfl,rfl,hR⟩:=hrel
  by_cases hlt:k<len
  ·obtain⟨j,hj⟩:∃j:Nat,(len:Int)-1-k=j:=⟨len-1-k,by omega⟩
   have hjj:j=len-1-k:=by omega
   have hcell:∃u,wr.cell? ⟨g,off+j,none⟩=some u:=by
    obtain⟨u,hu⟩:=HC.out j (by omega);exact⟨u,by rw[hR.old _ (by omega)];exact hu⟩
   have hfz:wr.frozen? ⟨g,off+j,none⟩=false:=by rw[hR.frozen];exact HF.out j (by omega)
   obtain⟨u,hu⟩:=hcell
   have HR:Hid (PutR w g off len (k+1) x (wr.setCell ⟨g,off+j,none⟩ (.int .u8 ((x:Int)/256^k%256)))):=by
    have e:(x:Int)/256^k%256=((x/256^k%256:Nat):Int):=by simp
    rw[e];subst hjj;exact hR.step hlt ⟨u,hu⟩
   have HJ:Hid _:=hjj;clear hR hjj;rw[hj]
   go_wp2
   go_roundw
   case rel=>exact⟨k+1,by omega,by congr 1;omega,by congr 1;rw[Nat.pow_succ,←Nat.div_div_eq_div_mul];simp,HR.out⟩
   case measure=>simp[RowKit.intOf]
  ·have e:k=len:=by omega
   subst e;have HR:Hid _:=hR;clear hR
   have e1:(k:Int)-1-k = -1:=by omega
   rw[e1]
   go_wp2
   go_end0
   exact⟨rfl,HR.out⟩
end
end Go.Proofs.YthmdjhfbhbheeaaGreatDoor
