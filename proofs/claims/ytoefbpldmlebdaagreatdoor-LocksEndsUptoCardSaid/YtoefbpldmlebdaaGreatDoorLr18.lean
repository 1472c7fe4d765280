import Derived.Test.YtoefbpldmlebdaaGreatDoorLr15
import Derived.Test.YtoefbpldmlebdaaGreatDoorLq4
import Derived.Test.YtoefbpldmlebdaaGreatDoorLkR2
import Derived.Test.YtoefbpldmlebdaaGreatDoorLkR3
namespace Go.Proofs.YtoefbpldmlebdaaGreatDoor
open Go.Proofs.Tryz
set_option maxHeartbeats 2000000
set_option maxRecDepth 100000
section
open Go.RowKit
def RX(w w':World)(b:Nat)(D:Nat→Prop)(m':Ms)(t a:Nat):Prop:=∃(R':Rt) (D':Nat→Prop),RT w' b R' D'∧RM R' m'∧Chg D w w'∧(∀k,D' k→D k∨w.heap.size≤k)∧R'.tx.length≤t∧R'.hd.length+R'.aq.length≤a
theorem chg_next{w w4 w6:World}{D D4 D6:Nat→Prop}(c1:Chg D w w4)(n1:∀k,D4 k→D k∨w.heap.size≤k)(c2:Chg D4 w4 w6)(n2:∀k,D6 k→D4 k∨w4.heap.size≤k):Chg D w w6∧∀k,D6 k→D k∨w.heap.size≤k:=
 ⟨c1.more c2 (fun i hi hd=>by
  rcases n1 i hd with h|h
  ·exact h
  ·omega),fun k hk=>by
  rcases n2 k hk with h|h
  ·exact n1 k h
  ·exact .inr (Nat.le_trans c1.size h)⟩
theorem rjoins_t{a b:Int}(ha:a=0∨modeB a=true)(hb:modeB b=true)(w:World):Calls prog 85 #[I a,I b] w fun e w'=>e=.returned (I (joinI a b))∧w'=w:=by
 have hj:jm b:=.inr (by simpa [modeB] using hb)
 rcases ha with rfl|ha
 ·exact rjoins_0 b hj w
 ·rcases mode_cases ha with rfl|rfl|rfl|rfl|rfl
  ·exact rjoins_1 b hj w
  ·exact rjoins_2 b hj w
  ·exact rjoins_3 b hj w
  ·exact rjoins_4 b hj w
  ·exact rjoins_5 b hj w
theorem ask_rnone{w:World}{b:Nat}{R:Rt}{D:Nat→Prop}(h:RT w b R D)(x:Int)(r:Rs)(mode:Int)(hn:∀e∈R.tx,(e.x==x)=false)(hl:R.tx.length<400000000000∧R.hd.length<400000000000∧R.aq.length<400000000000):Calls prog 51 #[ptr b,I x,.agg #[I r.lv,.string r.lb,I r.id],I mode] w fun e w'=>e=.returned (.tuple #[I 0,.slice none 0 0,I 80])∧G w w':=by
 obtain⟨vt,vh,va,tv,hR⟩:=h
 have gA:G w (w.alloc (.cells #[I r.lv,.string r.lb,I r.id] 27)):=(G.refl w).alloc _
 have gB:G w ((w.alloc (.cells #[I r.lv,.string r.lb,I r.id] 27)).alloc (.cells #[I r.lv,.string r.lb,I r.id] 27)):=gA.alloc _
 have hc:=(Blk.new w [I r.lv,.string r.lb,I r.id] 27).cell
 have KP:=hide (place_r (hR.G gA) x (by omega))
 rw[idxI_none hn] at KP
 have KR:=hide (res_r r (w.alloc (.cells #[I r.lv,.string r.lb,I r.id] 27)))
 have KM:=hide (fun W=>rmode_any mode W)
 have KQ:=hide (request_r (hR.G gB) x (by omega))
 clear KR KM KQ hn hc
 have HG:=hide (And.intro gA gB)
 clear hR gA gB hl
 go_enter func51,ntmps51
 go_wp2_with (first|(go_at_call 61;with_reducible refine(KP.out).mono ?_;rintro e w' ⟨rfl,rfl⟩)|fail)
 exact bodyPost_ret (v:=.tuple #[.int .i64 0,.slice none 0 0,.int .i64 80]) (by simp[results,results51,go_sem]) rfl ⟨rfl,HG.out.1⟩
theorem ask_rres{w:World}{b:Nat}{R:Rt}{D:Nat→Prop}(h:RT w b R D)(x:Int)(r:Rs)(mode:Int)(i:Nat)(hi:idxI (fun e:Tx=>e.x==x) R.tx=(i:Int))(hrb:resB r=false)(hl:R.tx.length<400000000000∧R.hd.length<400000000000∧R.aq.length<400000000000):Calls prog 51 #[ptr b,I x,.agg #[I r.lv,.string r.lb,I r.id],I mode] w fun e w'=>e=.returned (.tuple #[I 0,.slice none 0 0,I 82])∧G w w':=by
 obtain⟨vt,vh,va,tv,hR⟩:=h
 have gA:G w (w.alloc (.cells #[I r.lv,.string r.lb,I r.id] 27)):=(G.refl w).alloc _
 have gB:G w ((w.alloc (.cells #[I r.lv,.string r.lb,I r.id] 27)).alloc (.cells #[I r.lv,.string r.lb,I r.id] 27)):=gA.alloc _
 have hc:=(Blk.new w [I r.lv,.string r.lb,I r.id] 27).cell
 have KP:=hide (place_r (hR.G gA) x (by omega))
 rw[hi] at KP
 have hiI:¬(i:Int)<0:=by omega
 have KR:=hide (res_r r (w.alloc (.cells #[I r.lv,.string r.lb,I r.id] 27)))
 have KM:=hide (fun W=>rmode_any mode W)
 have KQ:=hide (request_r (hR.G gB) x (by omega))
 rw[hrb] at KR
 clear KM KQ hi hrb
 have HG:=hide (And.intro gA gB)
 clear hR gA gB hl
 go_enter func51,ntmps51
 go_wp2_with (first|(go_at_call 61;with_reducible refine(KP.out).mono ?_;rintro e w' ⟨rfl,rfl⟩)|(go_at_call 57;with_reducible refine(KR.out).mono ?_;rintro e w' ⟨rfl,rfl⟩)|fail)
 exact bodyPost_ret (v:=.tuple #[.int .i64 0,.slice none 0 0,.int .i64 82]) (by simp[results,results51,go_sem]) rfl ⟨rfl,HG.out.2⟩
theorem ask_rmode{w:World}{b:Nat}{R:Rt}{D:Nat→Prop}(h:RT w b R D)(x:Int)(r:Rs)(mode:Int)(i:Nat)(hi:idxI (fun e:Tx=>e.x==x) R.tx=(i:Int))(hrb:resB r=true)(hmb:modeB mode=false)(hl:R.tx.length<400000000000∧R.hd.length<400000000000∧R.aq.length<400000000000):Calls prog 51 #[ptr b,I x,.agg #[I r.lv,.string r.lb,I r.id],I mode] w fun e w'=>e=.returned (.tuple #[I 0,.slice none 0 0,I 81])∧G w w':=by
 obtain⟨vt,vh,va,tv,hR⟩:=h
 have gA:G w (w.alloc (.cells #[I r.lv,.string r.lb,I r.id] 27)):=(G.refl w).alloc _
 have gB:G w ((w.alloc (.cells #[I r.lv,.string r.lb,I r.id] 27)).alloc (.cells #[I r.lv,.string r.lb,I r.id] 27)):=gA.alloc _
 have hc:=(Blk.new w [I r.lv,.string r.lb,I r.id] 27).cell
 have KP:=hide (place_r (hR.G gA) x (by omega))
 rw[hi] at KP
 have hiI:¬(i:Int)<0:=by omega
 have KR:=hide (res_r r (w.alloc (.cells #[I r.lv,.string r.lb,I r.id] 27)))
 have KM:=hide (fun W=>rmode_any mode W)
 have KQ:=hide (request_r (hR.G gB) x (by omega))
 rw[hrb] at KR
 rw[hmb] at KM
 clear KQ hi hrb hmb
 have HG:=hide (And.intro gA gB)
 clear hR gA gB hl
 go_enter func51,ntmps51
 go_wp2_with (first|(go_at_call 61;with_reducible refine(KP.out).mono ?_;rintro e w' ⟨rfl,rfl⟩)|(go_at_call 57;with_reducible refine(KR.out).mono ?_;rintro e w' ⟨rfl,rfl⟩)|(go_at_call 84;with_reducible refine(KM.out _).mono ?_;rintro e w' ⟨rfl,rfl⟩)|fail)
 exact bodyPost_ret (v:=.tuple #[.int .i64 0,.slice none 0 0,.int .i64 81]) (by simp[results,results51,go_sem]) rfl ⟨rfl,HG.out.2⟩
theorem ask_rque{w:World}{b:Nat}{R:Rt}{D:Nat→Prop}(h:RT w b R D)(x:Int)(r:Rs)(mode:Int)(i:Nat)(hi:idxI (fun e:Tx=>e.x==x) R.tx=(i:Int))(hrb:resB r=true)(hmb:modeB mode=true)(n:Nat)(hq:idxI (fun e:Lk=>e.x==x) R.aq=(n:Int))(hl:R.tx.length<400000000000∧R.hd.length<400000000000∧R.aq.length<400000000000):Calls prog 51 #[ptr b,I x,.agg #[I r.lv,.string r.lb,I r.id],I mode] w fun e w'=>e=.returned (.tuple #[I 0,.slice none 0 0,I 83])∧G w w':=by
 obtain⟨vt,vh,va,tv,hR⟩:=h
 have gA:G w (w.alloc (.cells #[I r.lv,.string r.lb,I r.id] 27)):=(G.refl w).alloc _
 have gB:G w ((w.alloc (.cells #[I r.lv,.string r.lb,I r.id] 27)).alloc (.cells #[I r.lv,.string r.lb,I r.id] 27)):=gA.alloc _
 have hc:=(Blk.new w [I r.lv,.string r.lb,I r.id] 27).cell
 have KP:=hide (place_r (hR.G gA) x (by omega))
 rw[hi] at KP
 have hiI:¬(i:Int)<0:=by omega
 have KR:=hide (res_r r (w.alloc (.cells #[I r.lv,.string r.lb,I r.id] 27)))
 have KM:=hide (fun W=>rmode_any mode W)
 have KQ:=hide (request_r (hR.G gB) x (by omega))
 rw[hrb] at KR
 rw[hmb] at KM
 rw[hq] at KQ
 have hnI:(0:Int)≤(n:Int):=by omega
 clear hi hrb hmb hq
 have HG:=hide (And.intro gA gB)
 clear hR gA gB hl
 go_enter func51,ntmps51
 go_wp2_with (first|(go_at_call 61;with_reducible refine(KP.out).mono ?_;rintro e w' ⟨rfl,rfl⟩)|(go_at_call 57;with_reducible refine(KR.out).mono ?_;rintro e w' ⟨rfl,rfl⟩)|(go_at_call 84;with_reducible refine(KM.out _).mono ?_;rintro e w' ⟨rfl,rfl⟩)|(go_at_call 60;with_reducible refine(KQ.out).mono ?_;rintro e w' ⟨rfl,rfl⟩)|fail)
 exact bodyPost_ret (v:=.tuple #[.int .i64 0,.slice none 0 0,.int .i64 83]) (by simp[results,results51,go_sem]) rfl ⟨rfl,HG.out.2⟩
end
section
open Go.RowKit
def AkP(w:World)(D:Nat→Prop)(b:Nat)(m:Ms)(x:Int)(p:Pm)(r:Rs)(mode:Int)(t a:Nat)(e:Ending)(w':World):Prop:=∃(k:Int) (u:Value) (l:List Int) (c:Int) (m':Ms),e=.returned (.tuple #[I k,u,I c])∧w'.ownsRow w.heap.size 3 1 u l.length (l.map fun z=>I z)∧RX w w' b D m' t a∧AskK m x p r mode k l c m'
theorem ent_len(q:Lk)(l:List Lk):(entP q l).length=l.length+1:=by
 unfold entP
 have:=entN_le q l
 rw[List.length_append,List.length_take,List.length_cons,List.length_drop];omega
theorem sj_len{m m':Ms}{tx0 TX:List Tx}{last:Int}{OUT:List Int}(h:SJ m m' tx0 last TX OUT):TX.length=tx0.length:=by
 have:=congrArg List.length h.ids
 rw[List.length_map,List.length_map] at this
 exact this
theorem ask_rheld{w:World}{b:Nat}{R:Rt}{D:Nat→Prop}{m:Ms}{L:List Int}{LR:List Rs}{x:Int}{p:Pm}{r:Rs}{mode:Int}(h:RT w b R D)(hm:RM R m)(hI:Iv m L LR)(hp:m.lv x=some p)(hg0:p.goal=0)(hr:GoodR r LR)(hmo:modeB mode=true)(i:Nat)(hi:idxI (fun e:Tx=>e.x==x) R.tx=(i:Int))(hl:R.tx.length<300000000000∧R.hd.length+R.aq.length<300000000000)(hj:joinI (p.hf r) mode=p.hf r):Calls prog 51 #[ptr b,I x,.agg #[I r.lv,.string r.lb,I r.id],I mode] w (AkP w D b m x p r mode R.tx.length (R.hd.length+R.aq.length)):=by
 have HX:Hid (RM R m∧p.goal=0∧joinI (p.hf r) mode=p.hf r∧RT w b R D):=⟨hm,hg0,hj,h⟩
 obtain⟨vt,vh,va,tv,hR⟩:=h
 have gA:G w (w.alloc (.cells #[I r.lv,.string r.lb,I r.id] 27)):=(G.refl w).alloc _
 have gB:G w ((w.alloc (.cells #[I r.lv,.string r.lb,I r.id] 27)).alloc (.cells #[I r.lv,.string r.lb,I r.id] 27)):=gA.alloc _
 have hc:=(Blk.new w [I r.lv,.string r.lb,I r.id] 27).cell
 have hc2:=((Blk.new w [I r.lv,.string r.lb,I r.id] 27).G ((G.refl _).alloc (.cells #[I r.lv,.string r.lb,I r.id] 27))).cell
 have KP:=hide (place_r (hR.G gA) x (by omega))
 rw[hi] at KP
 have hiI:¬(i:Int)<0:=by omega
 have KR:=hide (res_r r (w.alloc (.cells #[I r.lv,.string r.lb,I r.id] 27)))
 rw[(resB_iff r).2 hr.2.2] at KR
 have KM:=hide (fun W=>rmode_any mode W)
 rw[hmo] at KM
 have KQ:=hide (request_r (hR.G gB) x (by omega))
 have hnq:∀e∈R.aq,(e.x==x)=false:=fun e he=>by
  cases he2:(e.x==x)with
  | false=>rfl
  | true=>
   exfalso
   have hex:e.x=x:=by simpa using he2
   refine no_req hI hp hg0 e.r e.c ?_
   rw[←hm.hq.qa,←hex]
   exact queP_mem.2 ⟨e,he,rfl,rfl,rfl⟩
 rw[idxI_none hnq] at KQ
 have KH:=hide (heldBy_r (hR.G gB) x r (by omega))
 rw[hm.hq.hb,hl_some hp] at KH
 have hm0:p.hf r=0∨modeB (p.hf r)=true:=by rw[←hl_some hp r];exact hI.mode r x
 have KJ:=hide (fun W=>rjoins_t hm0 hmo W)
 rw[hj] at KJ
 obtain⟨hv,hhv⟩:∃hv,hv=p.hf r:=⟨_,rfl⟩
 rw[←hhv] at KH KJ
 have HG:=hide gB
 clear hR gA gB hl hm hI hp hg0 hr hmo hi hnq hm0 hj hhv
 go_enter func51,ntmps51
 go_wp2_with (first|(go_at_call 61;with_reducible refine(KP.out).mono ?_;rintro e w' ⟨rfl,rfl⟩)|(go_at_call 57;with_reducible refine(KR.out).mono ?_;rintro e w' ⟨rfl,rfl⟩)|(go_at_call 84;with_reducible refine(KM.out _).mono ?_;rintro e w' ⟨rfl,rfl⟩)|(go_at_call 60;with_reducible refine(KQ.out).mono ?_;rintro e w' ⟨rfl,rfl⟩)|(go_at_call 59;with_reducible refine(KH.out).mono ?_;rintro e w3 ⟨rfl,g3⟩)|(go_at_call 85;with_reducible refine(KJ.out _).mono ?_;rintro e w' ⟨rfl,rfl⟩)|fail)
 exact bodyPost_ret (v:=.tuple #[.int .i64 1,.slice none 0 0,.int .i64 0]) (by simp[results,results51,go_sem]) rfl ⟨1,_,[],0,m,rfl,⟨rfl,.inl ⟨rfl,rfl⟩⟩,⟨R,D,HX.out.2.2.2.G (HG.out.trans g3),HX.out.1,(HG.out.trans g3).chg,fun k hk=>.inl hk,Nat.le_refl _,Nat.le_refl _⟩,.inr ⟨HX.out.2.1,rfl,.inl ⟨HX.out.2.2.1,rfl,rfl,rfl⟩⟩⟩
theorem ask_rgo_false{w:World}{b:Nat}{R:Rt}{D:Nat→Prop}{m:Ms}{L:List Int}{LR:List Rs}{x:Int}{p:Pm}{r:Rs}{mode:Int}(h:RT w b R D)(hm:RM R m)(hI:Iv m L LR)(hp:m.lv x=some p)(hg0:p.goal=0)(hr:GoodR r LR)(hmo:modeB mode=true)(i:Nat)(hi:idxI (fun e:Tx=>e.x==x) R.tx=(i:Int))(hl:R.tx.length<300000000000∧R.hd.length+R.aq.length<300000000000)(hj:joinI (p.hf r) mode≠p.hf r)(hz:p.hf r=0)(hL:L.length<100000000000):Calls prog 51 #[ptr b,I x,.agg #[I r.lv,.string r.lb,I r.id],I mode] w (AkP w D b m x p r mode R.tx.length (R.hd.length+R.aq.length+1)):=by
 have HRT:=hide h
 obtain⟨vt,vh,va,tv,hR⟩:=h
 have gA:G w (w.alloc (.cells #[I r.lv,.string r.lb,I r.id] 27)):=(G.refl w).alloc _
 have gB:G w ((w.alloc (.cells #[I r.lv,.string r.lb,I r.id] 27)).alloc (.cells #[I r.lv,.string r.lb,I r.id] 27)):=gA.alloc _
 have hc:=(Blk.new w [I r.lv,.string r.lb,I r.id] 27).cell
 have hc2:=((Blk.new w [I r.lv,.string r.lb,I r.id] 27).G ((G.refl _).alloc (.cells #[I r.lv,.string r.lb,I r.id] 27))).cell
 have KP:=hide (place_r (hR.G gA) x (by omega))
 rw[hi] at KP
 have hiI:¬(i:Int)<0:=by omega
 have KR:=hide (res_r r (w.alloc (.cells #[I r.lv,.string r.lb,I r.id] 27)))
 rw[(resB_iff r).2 hr.2.2] at KR
 have KM:=hide (fun W=>rmode_any mode W)
 rw[hmo] at KM
 have KQ:=hide (request_r (hR.G gB) x (by omega))
 have hnq:∀e∈R.aq,(e.x==x)=false:=fun e he=>by
  cases he2:(e.x==x)with
  | false=>rfl
  | true=>
   exfalso
   have hex:e.x=x:=by simpa using he2
   refine no_req hI hp hg0 e.r e.c ?_
   rw[←hm.hq.qa,←hex]
   exact queP_mem.2 ⟨e,he,rfl,rfl,rfl⟩
 rw[idxI_none hnq] at KQ
 have KH:=hide (heldBy_r (hR.G gB) x r (by omega))
 rw[hm.hq.hb,hl_some hp] at KH
 have hm0:p.hf r=0∨modeB (p.hf r)=true:=by rw[←hl_some hp r];exact hI.mode r x
 have KJ:=hide (fun W=>rjoins_t hm0 hmo W)
 obtain⟨g,hg⟩:∃g,g=joinI (p.hf r) mode:=⟨_,rfl⟩
 rw[←hg] at KJ hj
 have HAQ:=hide (aq_of (r:=r) (g:=g) hm hI hp hg0)
 have hdz:decide (p.hf r≠0)=false:=by simp[hz]
 rw[hdz] at HAQ
 have HI:=hide hI;have HM:=hide hm;have HP:=hide hp;have HG0:=hide hg0;have HR:=hide hr;have HMO:=hide hmo;have HG:=hide hg;have HJ:=hide hj;have HL:=hide hL;have HLL:=hide hl
 rw[hz] at KH KJ hj
 have d1:(g==0)=false:=by simp[hj]
 have d2:decide (g=0)=false:=by simp[hj]
 have HGB:=hide gB
 have HB0:=hide ((Blk.new w [I r.lv,.string r.lb,I r.id] 27).G ((G.refl _).alloc (.cells #[I r.lv,.string r.lb,I r.id] 27)))
 clear hR gA gB hl hm hI hp hg0 hr hmo hi hnq hm0 hdz hg hL
 go_enter func51,ntmps51
 go_wp2_with (first|(go_at_call 61;with_reducible refine(KP.out).mono ?_;rintro e w' ⟨rfl,rfl⟩)|(go_at_call 57;with_reducible refine(KR.out).mono ?_;rintro e w' ⟨rfl,rfl⟩)|(go_at_call 84;with_reducible refine(KM.out _).mono ?_;rintro e w' ⟨rfl,rfl⟩)|(go_at_call 60;with_reducible refine(KQ.out).mono ?_;rintro e w' ⟨rfl,rfl⟩)|(go_at_call 59;with_reducible refine(KH.out).mono ?_;rintro e w3 ⟨rfl,g3⟩;refine Hid.out ?_)|fail)
 unfold Hid
 have HG3:=hide (HGB.out.trans g3)
 have HB3:=hide (HB0.out.G g3)
 obtain⟨rb,hrb⟩:∃rb,rb=w.heap.size:=⟨_,rfl⟩
 have HRB:=hide hrb
 rw[←hrb] at HB3⊢
 have hc3:=HB3.out.cell
 obtain⟨vt3,vh3,va3,tv3,hR3⟩:=HRT.out.G HG3.out
 have KE:=hide (enter_r hR3 ⟨x,r,g,false⟩ (by have:=HLL.out;omega))
 clear g3 hc hc2 KP KR KM KQ KH HGB HB0 hrb
 go_wp2_with (first|(go_at_call 85;with_reducible refine(KJ.out _).mono ?_;rintro e w' ⟨rfl,rfl⟩)|(go_at_call 86;with_reducible refine(KE.out).mono ?_;rintro e w4 ⟨rfl,h4⟩;refine Hid.out ?_)|fail)
 unfold Hid
 obtain⟨D4,rt4,c4,n4⟩:=h4
 obtain⟨vt4,vh4,va4,tv4,hR4⟩:=rt4
 have hnD:¬D rb:=fun hd=>by
  obtain⟨_,_,_,_,h9⟩:=HRT.out
  have h10:=h9.dl rb hd
  have h11:=HRB.out
  omega
 have HB4:=hide (HB3.out.chg c4 hnD)
 have HD4:Hid (¬D4 rb):=fun hd=>by
  rcases n4 rb hd with h9|h9
  ·exact hnD h9
  ·have:=HB3.out.lt;omega
 have HC4:Hid (Chg D w w4∧∀k,D4 k→D k∨w.heap.size≤k):=⟨HG3.out.chg.trans c4,fun k hk=>by
  rcases n4 k hk with h9|h9
  ·exact .inl h9
  ·exact .inr (Nat.le_trans HG3.out.size h9)⟩
 obtain⟨n,hn⟩:∃n,n=entN ⟨x,r,g,false⟩ R.aq:=⟨_,rfl⟩
 have HN:=hide hn
 have hnn:R.aq.length+1<400000000000:=by have:=HLL.out;omega
 have hnlt:n<(entP ⟨x,r,g,false⟩ R.aq).length:=by rw[ent_len,hn];have:=entN_le ⟨x,r,g,false⟩ R.aq;omega
 have KI:=hide (inWay_r hR4 n ⟨x,r,g,false⟩ (by rw[hn];exact ent_at _ _) (show R.hd.length<400000000000∧(entP ⟨x,r,g,false⟩ R.aq).length<400000000000 by rw[ent_len];have:=HLL.out;omega))
 rw[←hn]
 have HWAY:Hid (∀y,y∈inwP ⟨R.tx,R.hd,entP ⟨x,r,g,false⟩ R.aq⟩ n ⟨x,r,g,false⟩↔inW (m.hl r) (m.qs r) x g (turnM m r x) y):=by rw[hn];exact HAQ.out.way
 have HR4:=hide hR4
 have HNL:=hide hnlt
 clear c4 n4 hnD hn hR4 KE KJ hnlt hnn hc3
 by_cases hway:inwP ⟨R.tx,R.hd,entP ⟨x,r,g,false⟩ R.aq⟩ n ⟨x,r,g,false⟩=[]
 ·have hb:¬∃y,inW (m.hl r) (m.qs r) x g (turnM m r x) y:=by
   rintro⟨y,hy⟩
   have:=(HWAY.out y).2 hy
   rw[hway] at this
   cases this
  have HGR:=hide (ask_grant HM.out HI.out HP.out HG0.out HR.out HMO.out HG.out hb)
  have HNB:=hide hb
  rw[hway] at KI
  clear hway hb HWAY
  go_wp2_with (first|(go_at_call 62;with_reducible refine(KI.out).mono ?_;rintro e w5 ⟨vw,rfl,o5,g5⟩;obtain⟨wya,wyc,rfl⟩:=row_form o5;refine Hid.out ?_)|fail)
  unfold Hid
  have HB5:=hide (HB4.out.G g5)
  have HC5:=hide (HC4.out.1.trans g5.chg)
  have KL:=hide (leave_r (HR4.out.G g5) n HNL.out (show(entP ⟨x,r,g,false⟩ R.aq).length<400000000000 by rw[ent_len];have:=HLL.out;omega))
  have HCE:Hid (cutP n (entP ⟨x,r,g,false⟩ R.aq)=R.aq):=by rw[HN.out];exact cutP_ent _ _
  clear o5 g5 KI
  go_wp2_with (first|(go_at_call 88;with_reducible refine(KL.out).mono ?_;rintro e w6 ⟨rfl,h6⟩;refine Hid.out ?_)|fail)
  unfold Hid
  obtain⟨D6,rt6,c6,n6⟩:=h6
  rw[HCE.out] at rt6
  obtain⟨vt6,vh6,va6,tv6,hR6⟩:=rt6
  have HC6:=hide (chg_next HC5.out HC4.out.2 c6 n6)
  have HB6:=hide (HB5.out.chg c6 HD4.out)
  have HD6:Hid (¬D6 rb):=fun hd=>by
   rcases n6 rb hd with h9|h9
   ·exact HD4.out h9
   ·have:=HB5.out.lt;omega
  have KO:=hide (hold_r hR6 x r g (show R.hd.length<400000000000 by have:=HLL.out;omega))
  have hc6:=HB6.out.cell
  clear c6 n6 hR6 KL
  go_wp2_with (first|(go_at_call 89;with_reducible refine(KO.out).mono ?_;rintro e w7 ⟨rfl,h7⟩;refine Hid.out ?_)|fail)
  unfold Hid
  obtain⟨D7,rt7,c7,n7⟩:=h7
  obtain⟨vt7,vh7,va7,tv7,hR7⟩:=rt7
  have HC7:=hide (chg_next HC6.out.1 HC6.out.2 c7 n7)
  have hol:=hol_len x r g R.hd
  have KW:=hide (wounds_r hR7 (SJ m (mGrant m x p r g (turnM m r x)) R.tx) (wj (R:=⟨R.tx,holP x r g R.hd,R.aq⟩) HM.out.tx HGR.out.2.2.1 HGR.out.2.1 HI.out HGR.out.1 HL.out) (SJ.start HGR.out.2.1 HM.out.tx) (show R.tx.length<400000000000∧(holP x r g R.hd).length<400000000000∧R.aq.length<400000000000 by have:=HLL.out;omega))
  have HOL:=hide hol
  clear c7 n7 hR7 KO hc6 hol
  go_wp2_with (first|(go_at_call 87;(with_reducible refine(KW.out).mono ?_);rintro e w8 ⟨v8,OUT,TX,last,D8,rfl,hj8,hmax,o8,rt8,c8,n8,nd8⟩)|fail)
  have hfin:=wj_fin (R:=⟨R.tx,holP x r g R.hd,R.aq⟩) HM.out.tx HGR.out.2.2.1 HGR.out.2.1 HGR.out.2.2.2 hj8 (fun a ha=>by have:=hmax a ha;omega)
  obtain⟨c9,n9⟩:=chg_next HC7.out.1 HC7.out.2 c8 n8
  exact bodyPost_ret (v:=.tuple #[.int .i64 1,v8,.int .i64 0]) (by simp[results,results51,go_sem]) rfl ⟨1,v8,OUT,0,_,rfl,own_lo o8 HC7.out.1.size,⟨_,D8,rt8,hfin.1,c9,n9,Nat.le_of_eq (sj_len hj8),by have:=HOL.out;show(holP x r g R.hd).length+R.aq.length≤_;omega⟩,.inr ⟨HG0.out,rfl,.inr ⟨by rw[←HG.out];exact HJ.out,by rw[←HG.out];exact⟨.inl ⟨HNB.out,rfl,rfl⟩,hfin.2.1,hfin.2.2⟩⟩⟩⟩
 ·have hb:∃y,inW (m.hl r) (m.qs r) x g (turnM m r x) y:=by
   obtain⟨y,hy⟩:=List.exists_mem_of_ne_nil _ hway
   exact⟨y,(HWAY.out y).1 hy⟩
  have HWT:=hide (ask_wait HI.out HP.out HG0.out HR.out HMO.out HG.out hb HAQ.out)
  have HBB:=hide hb
  have hwl:0<(inwP ⟨R.tx,R.hd,entP ⟨x,r,g,false⟩ R.aq⟩ n ⟨x,r,g,false⟩).length:=List.length_pos_iff.2 hway
  obtain⟨way,hwe⟩:∃way,way=inwP ⟨R.tx,R.hd,entP ⟨x,r,g,false⟩ R.aq⟩ n ⟨x,r,g,false⟩:=⟨_,rfl⟩
  rw[←hwe] at KI hwl
  have d4:decide (0<way.length)=true:=by simp[hwl]
  have d5:(0:Int)<(way.length:Int):=by omega
  clear hway hwe hb HWAY
  go_wp2_with (first|(go_at_call 62;with_reducible refine(KI.out).mono ?_;rintro e w5 ⟨vw,rfl,o5,g5⟩;obtain⟨wya,wyc,rfl⟩:=row_form o5;refine Hid.out ?_)|fail)
  unfold Hid
  have HC5:=hide (HC4.out.1.trans g5.chg)
  have KW:=hide (wounds_r (HR4.out.G g5) (SJ m (mWait m x p r g (turnM m r x)) R.tx) (wj (R:=⟨R.tx,R.hd,entP ⟨x,r,g,false⟩ R.aq⟩) HM.out.tx HWT.out.2.2.1 HWT.out.2.1 HI.out HWT.out.1 HL.out) (SJ.start HWT.out.2.1 HM.out.tx) (show R.tx.length<400000000000∧R.hd.length<400000000000∧(entP ⟨x,r,g,false⟩ R.aq).length<400000000000 by rw[ent_len];have:=HLL.out;omega))
  clear o5 g5 KI
  go_wp2_with (first|(go_at_call 87;(with_reducible refine(KW.out).mono ?_);rintro e w8 ⟨v8,OUT,TX,last,D8,rfl,hj8,hmax,o8,rt8,c8,n8,nd8⟩)|fail)
  have hfin:=wj_fin (R:=⟨R.tx,R.hd,entP ⟨x,r,g,false⟩ R.aq⟩) HM.out.tx HWT.out.2.2.1 HWT.out.2.1 HWT.out.2.2.2 hj8 (fun a ha=>by have:=hmax a ha;omega)
  obtain⟨c9,n9⟩:=chg_next HC5.out HC4.out.2 c8 n8
  exact bodyPost_ret (v:=.tuple #[.int .i64 2,v8,.int .i64 0]) (by simp[results,results51,go_sem]) rfl ⟨2,v8,OUT,0,_,rfl,own_lo o8 HC5.out.size,⟨_,D8,rt8,hfin.1,c9,n9,Nat.le_of_eq (sj_len hj8),by show R.hd.length+(entP ⟨x,r,g,false⟩ R.aq).length≤_;rw[ent_len];omega⟩,.inr ⟨HG0.out,rfl,.inr ⟨by rw[←HG.out];exact HJ.out,by rw[←HG.out];exact⟨.inr ⟨HBB.out,rfl,rfl⟩,hfin.2.1,hfin.2.2⟩⟩⟩⟩
theorem ask_rgo_true{w:World}{b:Nat}{R:Rt}{D:Nat→Prop}{m:Ms}{L:List Int}{LR:List Rs}{x:Int}{p:Pm}{r:Rs}{mode:Int}(h:RT w b R D)(hm:RM R m)(hI:Iv m L LR)(hp:m.lv x=some p)(hg0:p.goal=0)(hr:GoodR r LR)(hmo:modeB mode=true)(i:Nat)(hi:idxI (fun e:Tx=>e.x==x) R.tx=(i:Int))(hl:R.tx.length<300000000000∧R.hd.length+R.aq.length<300000000000)(hj:joinI (p.hf r) mode≠p.hf r)(hz:p.hf r≠0)(hL:L.length<100000000000):Calls prog 51 #[ptr b,I x,.agg #[I r.lv,.string r.lb,I r.id],I mode] w (AkP w D b m x p r mode R.tx.length (R.hd.length+R.aq.length+1)):=by
 have HRT:=hide h
 obtain⟨vt,vh,va,tv,hR⟩:=h
 have gA:G w (w.alloc (.cells #[I r.lv,.string r.lb,I r.id] 27)):=(G.refl w).alloc _
 have gB:G w ((w.alloc (.cells #[I r.lv,.string r.lb,I r.id] 27)).alloc (.cells #[I r.lv,.string r.lb,I r.id] 27)):=gA.alloc _
 have hc:=(Blk.new w [I r.lv,.string r.lb,I r.id] 27).cell
 have hc2:=((Blk.new w [I r.lv,.string r.lb,I r.id] 27).G ((G.refl _).alloc (.cells #[I r.lv,.string r.lb,I r.id] 27))).cell
 have KP:=hide (place_r (hR.G gA) x (by omega))
 rw[hi] at KP
 have hiI:¬(i:Int)<0:=by omega
 have KR:=hide (res_r r (w.alloc (.cells #[I r.lv,.string r.lb,I r.id] 27)))
 rw[(resB_iff r).2 hr.2.2] at KR
 have KM:=hide (fun W=>rmode_any mode W)
 rw[hmo] at KM
 have KQ:=hide (request_r (hR.G gB) x (by omega))
 have hnq:∀e∈R.aq,(e.x==x)=false:=fun e he=>by
  cases he2:(e.x==x)with
  | false=>rfl
  | true=>
   exfalso
   have hex:e.x=x:=by simpa using he2
   refine no_req hI hp hg0 e.r e.c ?_
   rw[←hm.hq.qa,←hex]
   exact queP_mem.2 ⟨e,he,rfl,rfl,rfl⟩
 rw[idxI_none hnq] at KQ
 have KH:=hide (heldBy_r (hR.G gB) x r (by omega))
 rw[hm.hq.hb,hl_some hp] at KH
 have hm0:p.hf r=0∨modeB (p.hf r)=true:=by rw[←hl_some hp r];exact hI.mode r x
 have KJ:=hide (fun W=>rjoins_t hm0 hmo W)
 obtain⟨g,hg⟩:∃g,g=joinI (p.hf r) mode:=⟨_,rfl⟩
 rw[←hg] at KJ hj
 have HAQ:=hide (aq_of (r:=r) (g:=g) hm hI hp hg0)
 have hdz:decide (p.hf r≠0)=true:=by simp[hz]
 rw[hdz] at HAQ
 have HI:=hide hI;have HM:=hide hm;have HP:=hide hp;have HG0:=hide hg0;have HR:=hide hr;have HMO:=hide hmo;have HG:=hide hg;have HJ:=hide hj;have HL:=hide hL;have HLL:=hide hl
 obtain⟨hv,hhv⟩:∃hv,hv=p.hf r:=⟨_,rfl⟩
 rw[←hhv] at KH KJ hj hz
 have d0:(hv != 0)=true:=by simp[hz]
 have d00:(hv==0)=false:=by simp[hz]
 clear hhv
 have d1:(g==hv)=false:=by simp[hj]
 have d2:decide (g=hv)=false:=by simp[hj]
 have HGB:=hide gB
 have HB0:=hide ((Blk.new w [I r.lv,.string r.lb,I r.id] 27).G ((G.refl _).alloc (.cells #[I r.lv,.string r.lb,I r.id] 27)))
 clear hR gA gB hl hm hI hp hg0 hr hmo hi hnq hm0 hdz hg hL
 go_enter func51,ntmps51
 go_wp2_with (first|(go_at_call 61;with_reducible refine(KP.out).mono ?_;rintro e w' ⟨rfl,rfl⟩)|(go_at_call 57;with_reducible refine(KR.out).mono ?_;rintro e w' ⟨rfl,rfl⟩)|(go_at_call 84;with_reducible refine(KM.out _).mono ?_;rintro e w' ⟨rfl,rfl⟩)|(go_at_call 60;with_reducible refine(KQ.out).mono ?_;rintro e w' ⟨rfl,rfl⟩)|(go_at_call 59;with_reducible refine(KH.out).mono ?_;rintro e w3 ⟨rfl,g3⟩;refine Hid.out ?_)|fail)
 unfold Hid
 have HG3:=hide (HGB.out.trans g3)
 have HB3:=hide (HB0.out.G g3)
 obtain⟨rb,hrb⟩:∃rb,rb=w.heap.size:=⟨_,rfl⟩
 have HRB:=hide hrb
 rw[←hrb] at HB3⊢
 have hc3:=HB3.out.cell
 obtain⟨vt3,vh3,va3,tv3,hR3⟩:=HRT.out.G HG3.out
 have KE:=hide (enter_r hR3 ⟨x,r,g,true⟩ (by have:=HLL.out;omega))
 clear g3 hc hc2 KP KR KM KQ KH HGB HB0 hrb
 go_wp2_with (first|(go_at_call 85;with_reducible refine(KJ.out _).mono ?_;rintro e w' ⟨rfl,rfl⟩)|(go_at_call 86;with_reducible refine(KE.out).mono ?_;rintro e w4 ⟨rfl,h4⟩;refine Hid.out ?_)|fail)
 unfold Hid
 obtain⟨D4,rt4,c4,n4⟩:=h4
 obtain⟨vt4,vh4,va4,tv4,hR4⟩:=rt4
 have hnD:¬D rb:=fun hd=>by
  obtain⟨_,_,_,_,h9⟩:=HRT.out
  have h10:=h9.dl rb hd
  have h11:=HRB.out
  omega
 have HB4:=hide (HB3.out.chg c4 hnD)
 have HD4:Hid (¬D4 rb):=fun hd=>by
  rcases n4 rb hd with h9|h9
  ·exact hnD h9
  ·have:=HB3.out.lt;omega
 have HC4:Hid (Chg D w w4∧∀k,D4 k→D k∨w.heap.size≤k):=⟨HG3.out.chg.trans c4,fun k hk=>by
  rcases n4 k hk with h9|h9
  ·exact .inl h9
  ·exact .inr (Nat.le_trans HG3.out.size h9)⟩
 obtain⟨n,hn⟩:∃n,n=entN ⟨x,r,g,true⟩ R.aq:=⟨_,rfl⟩
 have HN:=hide hn
 have hnn:R.aq.length+1<400000000000:=by have:=HLL.out;omega
 have hnlt:n<(entP ⟨x,r,g,true⟩ R.aq).length:=by rw[ent_len,hn];have:=entN_le ⟨x,r,g,true⟩ R.aq;omega
 have KI:=hide (inWay_r hR4 n ⟨x,r,g,true⟩ (by rw[hn];exact ent_at _ _) (show R.hd.length<400000000000∧(entP ⟨x,r,g,true⟩ R.aq).length<400000000000 by rw[ent_len];have:=HLL.out;omega))
 rw[←hn]
 have HWAY:Hid (∀y,y∈inwP ⟨R.tx,R.hd,entP ⟨x,r,g,true⟩ R.aq⟩ n ⟨x,r,g,true⟩↔inW (m.hl r) (m.qs r) x g (turnM m r x) y):=by rw[hn];exact HAQ.out.way
 have HR4:=hide hR4
 have HNL:=hide hnlt
 clear c4 n4 hnD hn hR4 KE KJ hnlt hnn hc3
 by_cases hway:inwP ⟨R.tx,R.hd,entP ⟨x,r,g,true⟩ R.aq⟩ n ⟨x,r,g,true⟩=[]
 ·have hb:¬∃y,inW (m.hl r) (m.qs r) x g (turnM m r x) y:=by
   rintro⟨y,hy⟩
   have:=(HWAY.out y).2 hy
   rw[hway] at this
   cases this
  have HGR:=hide (ask_grant HM.out HI.out HP.out HG0.out HR.out HMO.out HG.out hb)
  have HNB:=hide hb
  rw[hway] at KI
  clear hway hb HWAY
  go_wp2_with (first|(go_at_call 62;with_reducible refine(KI.out).mono ?_;rintro e w5 ⟨vw,rfl,o5,g5⟩;obtain⟨wya,wyc,rfl⟩:=row_form o5;refine Hid.out ?_)|fail)
  unfold Hid
  have HB5:=hide (HB4.out.G g5)
  have HC5:=hide (HC4.out.1.trans g5.chg)
  have KL:=hide (leave_r (HR4.out.G g5) n HNL.out (show(entP ⟨x,r,g,true⟩ R.aq).length<400000000000 by rw[ent_len];have:=HLL.out;omega))
  have HCE:Hid (cutP n (entP ⟨x,r,g,true⟩ R.aq)=R.aq):=by rw[HN.out];exact cutP_ent _ _
  clear o5 g5 KI
  go_wp2_with (first|(go_at_call 88;with_reducible refine(KL.out).mono ?_;rintro e w6 ⟨rfl,h6⟩;refine Hid.out ?_)|fail)
  unfold Hid
  obtain⟨D6,rt6,c6,n6⟩:=h6
  rw[HCE.out] at rt6
  obtain⟨vt6,vh6,va6,tv6,hR6⟩:=rt6
  have HC6:=hide (chg_next HC5.out HC4.out.2 c6 n6)
  have HB6:=hide (HB5.out.chg c6 HD4.out)
  have HD6:Hid (¬D6 rb):=fun hd=>by
   rcases n6 rb hd with h9|h9
   ·exact HD4.out h9
   ·have:=HB5.out.lt;omega
  have KO:=hide (hold_r hR6 x r g (show R.hd.length<400000000000 by have:=HLL.out;omega))
  have hc6:=HB6.out.cell
  clear c6 n6 hR6 KL
  go_wp2_with (first|(go_at_call 89;with_reducible refine(KO.out).mono ?_;rintro e w7 ⟨rfl,h7⟩;refine Hid.out ?_)|fail)
  unfold Hid
  obtain⟨D7,rt7,c7,n7⟩:=h7
  obtain⟨vt7,vh7,va7,tv7,hR7⟩:=rt7
  have HC7:=hide (chg_next HC6.out.1 HC6.out.2 c7 n7)
  have hol:=hol_len x r g R.hd
  have KW:=hide (wounds_r hR7 (SJ m (mGrant m x p r g (turnM m r x)) R.tx) (wj (R:=⟨R.tx,holP x r g R.hd,R.aq⟩) HM.out.tx HGR.out.2.2.1 HGR.out.2.1 HI.out HGR.out.1 HL.out) (SJ.start HGR.out.2.1 HM.out.tx) (show R.tx.length<400000000000∧(holP x r g R.hd).length<400000000000∧R.aq.length<400000000000 by have:=HLL.out;omega))
  have HOL:=hide hol
  clear c7 n7 hR7 KO hc6 hol
  go_wp2_with (first|(go_at_call 87;(with_reducible refine(KW.out).mono ?_);rintro e w8 ⟨v8,OUT,TX,last,D8,rfl,hj8,hmax,o8,rt8,c8,n8,nd8⟩)|fail)
  have hfin:=wj_fin (R:=⟨R.tx,holP x r g R.hd,R.aq⟩) HM.out.tx HGR.out.2.2.1 HGR.out.2.1 HGR.out.2.2.2 hj8 (fun a ha=>by have:=hmax a ha;omega)
  obtain⟨c9,n9⟩:=chg_next HC7.out.1 HC7.out.2 c8 n8
  exact bodyPost_ret (v:=.tuple #[.int .i64 1,v8,.int .i64 0]) (by simp[results,results51,go_sem]) rfl ⟨1,v8,OUT,0,_,rfl,own_lo o8 HC7.out.1.size,⟨_,D8,rt8,hfin.1,c9,n9,Nat.le_of_eq (sj_len hj8),by have:=HOL.out;show(holP x r g R.hd).length+R.aq.length≤_;omega⟩,.inr ⟨HG0.out,rfl,.inr ⟨by rw[←HG.out];exact HJ.out,by rw[←HG.out];exact⟨.inl ⟨HNB.out,rfl,rfl⟩,hfin.2.1,hfin.2.2⟩⟩⟩⟩
 ·have hb:∃y,inW (m.hl r) (m.qs r) x g (turnM m r x) y:=by
   obtain⟨y,hy⟩:=List.exists_mem_of_ne_nil _ hway
   exact⟨y,(HWAY.out y).1 hy⟩
  have HWT:=hide (ask_wait HI.out HP.out HG0.out HR.out HMO.out HG.out hb HAQ.out)
  have HBB:=hide hb
  have hwl:0<(inwP ⟨R.tx,R.hd,entP ⟨x,r,g,true⟩ R.aq⟩ n ⟨x,r,g,true⟩).length:=List.length_pos_iff.2 hway
  obtain⟨way,hwe⟩:∃way,way=inwP ⟨R.tx,R.hd,entP ⟨x,r,g,true⟩ R.aq⟩ n ⟨x,r,g,true⟩:=⟨_,rfl⟩
  rw[←hwe] at KI hwl
  have d4:decide (0<way.length)=true:=by simp[hwl]
  have d5:(0:Int)<(way.length:Int):=by omega
  clear hway hwe hb HWAY
  go_wp2_with (first|(go_at_call 62;with_reducible refine(KI.out).mono ?_;rintro e w5 ⟨vw,rfl,o5,g5⟩;obtain⟨wya,wyc,rfl⟩:=row_form o5;refine Hid.out ?_)|fail)
  unfold Hid
  have HC5:=hide (HC4.out.1.trans g5.chg)
  have KW:=hide (wounds_r (HR4.out.G g5) (SJ m (mWait m x p r g (turnM m r x)) R.tx) (wj (R:=⟨R.tx,R.hd,entP ⟨x,r,g,true⟩ R.aq⟩) HM.out.tx HWT.out.2.2.1 HWT.out.2.1 HI.out HWT.out.1 HL.out) (SJ.start HWT.out.2.1 HM.out.tx) (show R.tx.length<400000000000∧R.hd.length<400000000000∧(entP ⟨x,r,g,true⟩ R.aq).length<400000000000 by rw[ent_len];have:=HLL.out;omega))
  clear o5 g5 KI
  go_wp2_with (first|(go_at_call 87;(with_reducible refine(KW.out).mono ?_);rintro e w8 ⟨v8,OUT,TX,last,D8,rfl,hj8,hmax,o8,rt8,c8,n8,nd8⟩)|fail)
  have hfin:=wj_fin (R:=⟨R.tx,R.hd,entP ⟨x,r,g,true⟩ R.aq⟩) HM.out.tx HWT.out.2.2.1 HWT.out.2.1 HWT.out.2.2.2 hj8 (fun a ha=>by have:=hmax a ha;omega)
  obtain⟨c9,n9⟩:=chg_next HC5.out HC4.out.2 c8 n8
  exact bodyPost_ret (v:=.tuple #[.int .i64 2,v8,.int .i64 0]) (by simp[results,results51,go_sem]) rfl ⟨2,v8,OUT,0,_,rfl,own_lo o8 HC5.out.size,⟨_,D8,rt8,hfin.1,c9,n9,Nat.le_of_eq (sj_len hj8),by show R.hd.length+(entP ⟨x,r,g,true⟩ R.aq).length≤_;rw[ent_len];omega⟩,.inr ⟨HG0.out,rfl,.inr ⟨by rw[←HG.out];exact HJ.out,by rw[←HG.out];exact⟨.inr ⟨HBB.out,rfl,rfl⟩,hfin.2.1,hfin.2.2⟩⟩⟩⟩
end
section
open Go.RowKit
noncomputable def rltB(a b:Rs):Bool:=@decide (rLt a b) (Classical.propDecidable _)
theorem rltB_iff{a b:Rs}:rltB a b=true↔rLt a b:=⟨fun h=>@of_decide_eq_true _ (Classical.propDecidable _) h,@decide_eq_true _ (Classical.propDecidable _)⟩
theorem rltB_no{a b:Rs}:rltB a b=false↔¬rLt a b:=by rw[←Bool.not_eq_true,rltB_iff]
theorem rLt_asym{a b:Rs}(h:rLt a b):¬rLt b a:=fun h2=>rLt_irrefl a (rLt_trans h h2)
theorem bl_iff:∀(x y:List UInt8),Op.bytesLess x y=true↔bLt x y
 | x,[]=>by
  cases x<;>simp[Op.bytesLess,bLt,Lib.compareBytes]
 | [],b::y=>by simp[Op.bytesLess,bLt,Lib.compareBytes]
 | a::x,b::y=>by
  have ih:=bl_iff x y
  rw[Op.bytesLess,Bool.or_eq_true,Bool.and_eq_true,ih,bLt_cons]
  simp
theorem rlt_val{a b:Rs}{v:Bool}(h:v=true↔rLt a b):Ending.returned (.bool v)=.returned (.bool (rltB a b)):=by
 have:v=rltB a b:=by
  have h2:=@rltB_iff a b
  cases v<;>cases hh:rltB a b<;>simp_all
 rw[this]
theorem ahead_r(a b:Rs)(w:World):Calls prog 110 #[.agg #[I a.lv,.string a.lb,I a.id],.agg #[I b.lv,.string b.lb,I b.id]] w fun e w'=>e=.returned (.bool (rltB a b))∧G w w':=by
 have HG:Hid (G w ((w.alloc (.cells #[I a.lv,.string a.lb,I a.id] 27)).alloc (.cells #[I b.lv,.string b.lb,I b.id] 27))):=((G.refl w).alloc _).alloc _
 obtain⟨q,hq⟩:∃q,rltB a b=q:=⟨_,rfl⟩
 have HQ:=hide hq
 rw[hq]
 clear hq
 have c1:=((Blk.new w [I a.lv,.string a.lb,I a.id] 27).G ((G.refl _).alloc (.cells #[I b.lv,.string b.lb,I b.id] 27))).cell
 have c2:=(Blk.new (w.alloc (.cells #[I a.lv,.string a.lb,I a.id] 27)) [I b.lv,.string b.lb,I b.id] 27).cell
 rw[World.size_alloc] at c2
 obtain⟨al,ab,ai⟩:=a
 obtain⟨bl,bb,bi⟩:=b
 simp only at HG c1 c2⊢
 by_cases h1:al=bl
 ·by_cases h2:ab=bb
  ·have HF:Hid (decide (ai<bi)=true↔rLt ⟨al,ab,ai⟩ ⟨bl,bb,bi⟩):=by
    have hn:¬bLt ab.data.toList bb.data.toList:=by rw[h2];unfold bLt;have:=(cB_eq bb.data.toList bb.data.toList).2 rfl;omega
    simp[Hid,rLt,h1,h2,h2▸hn]
   subst h1 h2
   go_enter func110,ntmps110
   go_wp2
   go_ret
   exact⟨by rw[←HQ.out];exact rlt_val HF.out,HG.out⟩
  ·have HF:Hid (Op.bytesLess ab.toList bb.toList=true↔rLt ⟨al,ab,ai⟩ ⟨bl,bb,bi⟩):=by
    show _↔_
    rw[bl_iff,Lib.toList_data,Lib.toList_data]
    unfold rLt
    simp[h1,h2]
   have d2:¬ab.toList=bb.toList:=fun e=>h2 (toList_inj e)
   have d3:(ab.toList==bb.toList)=false:=by simp[d2]
   subst h1
   go_enter func110,ntmps110
   go_wp2
   go_ret
   exact⟨by rw[←HQ.out];exact rlt_val HF.out,HG.out⟩
 ·have HF:Hid (decide (al<bl)=true↔rLt ⟨al,ab,ai⟩ ⟨bl,bb,bi⟩):=by
   simp[Hid,rLt,h1]
  have d1:(al==bl)=false:=by simp[h1]
  have d2:decide (al=bl)=false:=by simp[h1]
  go_enter func110,ntmps110
  go_wp2
  go_ret
  exact⟨by rw[←HQ.out];exact rlt_val HF.out,HG.out⟩
noncomputable def insR(x:Rs)(l:List Rs):List Rs:=l.filter (fun a=>rltB a x)++x::l.filter (fun a=>rltB x a)
theorem insR_up{x:Rs}{l:List Rs}(h:l.Pairwise rLt):(insR x l).Pairwise rLt:=by
 unfold insR
 rw[List.pairwise_append,List.pairwise_cons]
 refine⟨h.sublist List.filter_sublist,⟨fun a ha=>?_,h.sublist List.filter_sublist⟩,fun a ha b hb=>?_⟩
 ·exact rltB_iff.1 (List.mem_filter.1 ha).2
 ·have h1:rLt a x:=rltB_iff.1 (List.mem_filter.1 ha).2
  rcases List.mem_cons.1 hb with rfl|hb
  ·exact h1
  ·exact rLt_trans h1 (rltB_iff.1 (List.mem_filter.1 hb).2)
theorem insR_mem{x:Rs}{l:List Rs}(y:Rs):y∈insR x l↔y=x∨y∈l:=by
 unfold insR
 rw[List.mem_append,List.mem_cons,List.mem_filter,List.mem_filter,rltB_iff,rltB_iff]
 constructor
 ·rintro(h|h|h)
  ·exact .inr h.1
  ·exact .inl h
  ·exact .inr h.1
 ·rintro(h|h)
  ·exact .inr (.inl h)
  ·rcases rLt_tot y x with k|k|k
   ·exact .inl ⟨h,k⟩
   ·exact .inr (.inl k)
   ·exact .inr (.inr ⟨h,k⟩)
theorem insR_len(x:Rs)(l:List Rs):(insR x l).length≤l.length+1:=by
 unfold insR
 rw[List.length_append,List.length_cons]
 have:(l.filter (fun a=>rltB a x)).length+(l.filter (fun a=>rltB x a)).length≤l.length:=by
  induction l with
  | nil=>simp
  | cons a l ih=>
   rw[List.filter_cons,List.filter_cons]
   cases h1:rltB a x with
   | true=>
    have h2:rltB x a=false:=rltB_no.2 (rLt_asym (rltB_iff.1 h1))
    simp[h2];omega
   | false=>cases h2:rltB x a<;>simp<;>omega
 omega
noncomputable def dnR(x:Rs)(l:List Rs):Bool:=l.any fun a=>!rltB a x
noncomputable def outR(x:Rs)(l:List Rs):List Rs:=l.filter (fun a=>rltB a x)++((if dnR x l then [x] else [])++l.filter (fun a=>rltB x a))
section
variable {x a:Rs} {l:List Rs}
theorem gtR_none(h:dnR x l=false):l.filter (fun a=>rltB x a)=[]:=by
 rw[List.filter_eq_nil_iff]
 intro a ha hx
 have:dnR x l=true:=by
  unfold dnR
  rw[List.any_eq_true]
  exact⟨a,ha,by rw[rltB_no.2 (rLt_asym (rltB_iff.1 hx))];rfl⟩
 rw[h] at this;cases this
theorem dnR_snoc:dnR x (l++[a])=(dnR x l || !rltB a x):=by simp[dnR]
theorem outR_lt(hd:dnR x l=false)(ha:rLt a x):dnR x (l++[a])=false∧outR x (l++[a])=outR x l++[a]:=by
 have h0:rltB a x=true:=rltB_iff.2 ha
 have h1:dnR x (l++[a])=false:=by rw[dnR_snoc,hd,h0];rfl
 refine⟨h1,?_⟩
 unfold outR
 rw[h1,hd,gtR_none h1,gtR_none hd,List.filter_append]
 simp[h0]
theorem outR_eq(hd:dnR x l=false):dnR x (l++[x])=true∧outR x (l++[x])=outR x l++[x]:=by
 have h0:rltB x x=false:=rltB_no.2 (rLt_irrefl x)
 have h1:dnR x (l++[x])=true:=by rw[dnR_snoc,h0];simp
 refine⟨h1,?_⟩
 unfold outR
 rw[h1,hd,gtR_none hd,List.filter_append,List.filter_append,gtR_none hd]
 simp[h0]
theorem outR_gt1(hd:dnR x l=false)(ha:rLt x a):dnR x (l++[a])=true∧outR x (l++[a])=(outR x l++[x])++[a]:=by
 have h0:rltB x a=true:=rltB_iff.2 ha
 have h2:rltB a x=false:=rltB_no.2 (rLt_asym ha)
 have h1:dnR x (l++[a])=true:=by rw[dnR_snoc,h2];simp
 refine⟨h1,?_⟩
 unfold outR
 rw[h1,hd,gtR_none hd,List.filter_append,List.filter_append,gtR_none hd]
 simp[h0,h2]
theorem outR_gt2(hd:dnR x l=true)(ha:rLt x a):dnR x (l++[a])=true∧outR x (l++[a])=outR x l++[a]:=by
 have h0:rltB x a=true:=rltB_iff.2 ha
 have h2:rltB a x=false:=rltB_no.2 (rLt_asym ha)
 have h1:dnR x (l++[a])=true:=by rw[dnR_snoc,hd];rfl
 refine⟨h1,?_⟩
 unfold outR
 rw[h1,hd,List.filter_append,List.filter_append]
 simp[h0,h2]
theorem outR_fin(l:List Rs):insR x l=if dnR x l then outR x l else outR x l++[x]:=by
 unfold insR outR
 cases h:dnR x l with
 | true=>simp
 | false=>rw[gtR_none h];simp
theorem outR_len(l:List Rs):(outR x l).length≤l.length+1:=by
 have h:=insR_len x l
 rw[outR_fin] at h
 split at h
 ·exact h
 ·rw[List.length_append] at h
  omega
theorem dnR_above{l:List Rs}{n:Nat}(hup:l.Pairwise rLt)(ha:l[n]?=some a)(hd:dnR x (l.take n)=true):rLt x a:=by
 unfold dnR at hd
 obtain⟨z,hz,hzx⟩:=List.any_eq_true.1 hd
 obtain⟨j,hj⟩:=List.mem_iff_getElem?.1 hz
 rw[List.getElem?_take] at hj
 by_cases hjn:j<n
 ·rw[if_pos hjn] at hj
  obtain⟨l1,e1⟩:=List.getElem?_eq_some_iff.1 hj
  obtain⟨l2,e2⟩:=List.getElem?_eq_some_iff.1 ha
  have h3:=List.pairwise_iff_getElem.1 hup j n l1 l2 hjn
  rw[e1,e2] at h3
  have h4:rltB z x=false:=by simpa using hzx
  rcases rLt_tot z x with k|k|k
  ·exact absurd k (rltB_no.1 h4)
  ·rw[k] at h3;exact h3
  ·exact rLt_trans k h3
 ·rw[if_neg hjn] at hj;cases hj
end
noncomputable def resP(l:List Lk):List Rs:=l.foldl (fun acc e=>insR e.r acc) []
theorem resP_snoc(l:List Lk)(e:Lk):resP (l++[e])=insR e.r (resP l):=by
 unfold resP
 rw[List.foldl_append];rfl
theorem snoc_all{α:Type}{P:List α→Prop}(h0:P [])(hs:∀l a,P l→P (l++[a]))(l:List α):P l:=by
 have h:∀m:List α,P m.reverse:=fun m=>by
  induction m with
  | nil=>exact h0
  | cons a m ih=>rw[List.reverse_cons];exact hs _ a ih
 rw[←List.reverse_reverse l];exact h _
theorem resP_all(l:List Lk):(resP l).Pairwise rLt∧(resP l).length≤l.length∧∀r,r∈resP l↔∃e∈l,e.r=r:=by
 refine snoc_all (P:=fun l=>(resP l).Pairwise rLt∧(resP l).length≤l.length∧∀r,r∈resP l↔∃e∈l,e.r=r) ⟨List.Pairwise.nil,Nat.le_refl _,fun r=>by simp[resP]⟩ (fun l e ih=>?_) l
 obtain⟨h1,h2,h3⟩:=ih
 rw[resP_snoc]
 refine⟨insR_up h1,?_,fun r=>?_⟩
 ·have:=insR_len e.r (resP l)
  rw[List.length_append,List.length_singleton];omega
 ·rw[insR_mem,h3]
  constructor
  ·rintro(h|⟨a,ha,h⟩)
   ·exact⟨e,by simp,h.symm⟩
   ·exact⟨a,by simp[ha],h⟩
  ·rintro⟨a,ha,h⟩
   rcases List.mem_append.1 ha with ha|ha
   ·exact .inr ⟨a,ha,h⟩
   ·simp at ha;subst ha;exact .inl h.symm
end
end Go.Proofs.YtoefbpldmlebdaaGreatDoor
