import Derived.Test.YthmdjhfbhbheeaaGreatDoorFold11
import Derived.Test.YthmdjhfbhbheeaaGreatDoorNam6
namespace Go.Proofs.YthmdjhfbhbheeaaGreatDoor
open Go.Proofs.Tryz
set_option maxHeartbeats 4000000
set_option maxRecDepth 100000
section
open Go.RowKit Go.PlainAid Go.Lib Go.Shelf
theorem encS_consA(c:Nat)(l:List Nat):encS (c::l)=(if c=0 then [0,255] else [c])++encS l:=by unfold encS;rw[List.flatMap_cons]
def natsA(s:ByteArray):List Nat:=(List.range s.size).map fun k=>(bt s k).toNat
theorem encV_kindsA(k a b:Int)(s:ByteArray):encV k a b s=if k=0 then [80] else if k=1 then [48,a.toNat] else if k=2 then encW a++[0] else if k=3 then(encW a++[1])++encW b else if k=4 then(32::encS (natsA s))++[0,0] else if k=5 then 16::encW a else 17::encW a:=rfl
theorem nats_lenA(s:ByteArray):(natsA s).length=s.size:=by simp[natsA]
theorem enc_lenA(k a b:Int)(s:ByteArray)(h:okV k a b s=true)(ha:R64 a)(hb:R64 b):(encV k a b s).length≤4096:=by
 have h1:=encW_len a ha.1 ha.2
 have h2:=encW_len b hb.1 hb.2
 rw[encV_kindsA]
 by_cases c4:k=4
 ·subst c4
  have h3:=(ok_4 h).2.2.1
  have:∀l:List Nat,(encS l).length≤2*l.length:=fun l=>by
   induction l with
   | nil=>simp[encS]
   | cons c l ih=>
    rw[encS_consA,List.length_append,List.length_cons]
    split<;>simp<;>omega
  have h4:=this (natsA s)
  rw[nats_lenA] at h4
  simp;omega
 ·by_cases c0:k=0
  ·rw[if_pos c0];simp
  rw[if_neg c0]
  by_cases c1:k=1
  ·rw[if_pos c1];simp
  rw[if_neg c1]
  by_cases c2:k=2
  ·rw[if_pos c2];simp;omega
  rw[if_neg c2]
  by_cases c3:k=3
  ·rw[if_pos c3];simp;omega
  rw[if_neg c3,if_neg c4]
  by_cases c5:k=5
  ·rw[if_pos c5];simp;omega
  ·rw[if_neg c5];simp;omega
theorem enc_both(k a b:Int)(s:ByteArray)(hs:s.size≤4611686018427387904)(ha:R64 a)(hb:R64 b):∃(xs:List Nat) (c:Int),xs.length≤1073741824∧(∀w,Tabs w→Calls prog 8 #[V k a b s] w fun e w'=>∃x,e=.returned (.tuple #[x,.int .i64 c])∧G w w'∧RowB w' x xs)∧(∀w,Calls prog 9 #[V k a b s] w fun e w'=>∃x,e=.returned (.tuple #[x,.int .i64 c])∧G w w'∧RowB w' x xs):=by
 cases h:okV k a b s with
 | true=>exact⟨encV k a b s,0,Nat.le_trans (enc_lenA k a b s h ha hb) (by decide),fun w hT=>(enc_yes k a b s h _ (icode_any k a b s h ha) w hT).mono fun e w' ⟨x,he,hb⟩=>⟨x,he,hb.g,hb.row⟩,fun w=>(ren_yes k a b s hs h ha w).mono fun e w' ⟨x,he,hb⟩=>⟨x,he,hb.g,hb.row⟩⟩
 | false=>exact⟨[],16,Nat.zero_le _,fun w hT=>(enc_no k a b s h w hT).mono fun e w' ⟨he,hb⟩=>⟨_,he,hb,⟨none,0,rfl,Nat.le_refl _,fun i d hi=>by simp at hi⟩⟩,fun w=>(ren_no k a b s hs h w).mono fun e w' ⟨he,hb⟩=>⟨_,he,hb,⟨none,0,rfl,Nat.le_refl _,fun i d hi=>by simp at hi⟩⟩⟩
theorem plays_e(e:Ent)(kk:e.kind=8)(hs:e.s.size≤4611686018427387904)(ha:R64 e.a)(hb:R64 e.b)(w:World)(hT:Tabs w):Calls prog 7 #[e.V] w fun r w'=>r=.returned (.bool true)∧G w w':=by
 obtain⟨kind,op,k,a,b,s,k',a',b',s',vs,st,tt,bb,n,x,y,o1,o2⟩:=e
 simp only at kk hs ha hb
 subst kk
 obtain⟨xs,c,hx,h1,h2⟩:=enc_both k a b s hs ha hb
 have H1:=hide h1
 have H2:=hide h2
 have HT:=hide hT
 have HXL:=hide hx
 clear h1 h2 hT hx
 go_enter func7,ntmps7
 go_wp2_with fail
 refine(H1.out _ (HT.out.G ((G.refl w).alloc _))).mono ?_
 rintro e w1 ⟨x1,rfl,hb1,hr1⟩
 have hc1:∀o,w1.cell? {block:=w.heap.size,off:=o}=[I 8,I op,I k,I a,I b,.string s,I k',I a',I b',.string s',vs,.string st,.string tt,bb,I n,I x,I y,I o1,I o2][o]?:=G.cells hb1 (by simp) (by simp)
 have HG1:Hid (G w w1):=G.trans ((G.refl w).alloc _) hb1
 have HR1:=hide hr1
 clear hb1 hr1
 go_wp2_with fail
 refine(H2.out _).mono ?_
 rintro e w2 ⟨x2,rfl,hb2,hr2⟩
 have HSM:=hide (same_yes x1 x2 xs w2 (HR1.out.G hb2) hr2 HXL.out)
 have HG2:Hid (G w w2):=HG1.out.trans hb2
 clear hb2 hr2 hc1
 go_wp2_with fail
 refine HSM.out.mono ?_
 rintro e w3 ⟨rfl,hb3⟩
 have HG3:=hide (HG2.out.trans hb3)
 clear hb3 HSM
 go_wp2
 go_ret
 exact⟨rfl,HG3.out⟩
def RdyA(w:World):Prop:=RdyB w∧Env w
theorem RdyA.G{w w':World}(h:RdyA w)(g:G w w'):RdyA w':=⟨h.1.G g,h.2.G g⟩
theorem all_plays(W:World)(hT:RdyA W)(e:Ent)(h:EntOk W e)(h1:1≤e.kind)(h2:e.kind≤14)(w':World)(g:G W w'):Calls prog 7 #[e.V] w' fun r w''=>r=.returned (.bool true)∧G w' w'':=by
 have hR:Rdy W:=⟨hT.1.1,hT.1.2.1⟩
 by_cases e1:e.kind=1
 ·exact forms_plays W hT.1.1 e h (by omega) (by omega) w' g
 by_cases e2:e.kind=2
 ·exact unary_plays W hT.1.1 e h (by omega) (by omega) w' g
 by_cases e3:e.kind=3
 ·exact binary_plays W hT.1 e h (by omega) (by omega) w' g
 by_cases e4:e.kind=4
 ·exact compare_plays W hR e h (by omega) (by omega) w' g
 by_cases e5:e.kind=5
 ·exact fold_plays W hR e h (by omega) (by omega) w' g
 by_cases e6:e.kind≤7
 ·exact texts_plays W hT.2 e h (by omega) (by omega) w' g
 by_cases e8:e.kind=8
 ·exact plays_e e e8 (by have:=h.s;unfold reachBytes at this;omega) h.a h.b w' (hT.1.1.G g)
 by_cases e9:e.kind=9
 ·exact decode_plays W hT.1.1 e h (by omega) (by omega) w' g
 by_cases e10:e.kind≤11
 ·exact parts_plays W hT.1.1 e h (by omega) (by omega) w' g
 exact names_plays W hT.1.1 e h (by omega) (by omega) w' g
end
end Go.Proofs.YthmdjhfbhbheeaaGreatDoor
