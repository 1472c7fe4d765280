import Derived.Test.YtadfaiciolfgjaaGreatDoorLkR3
import Derived.Test.YtadfaiciolfgjaaGreatDoorLr19
namespace Go.Proofs.YtadfaiciolfgjaaGreatDoor
open Go.Proofs.Tryz
set_option maxHeartbeats 2000000
set_option maxRecDepth 100000
section
open Go.RowKit
def RX(w w':World)(b:Nat)(D:Nat→Prop)(m':Ms)(t a:Nat):Prop:=∃(R':Rt) (D':Nat→Prop),RT w' b R' D'∧RM R' m'∧Chg D w w'∧(∀k,D' k→D k∨w.heap.size≤k)∧R'.tx.length≤t∧R'.hd.length+R'.aq.length≤a
theorem chg_next{w w4 w6:World}{D D4 D6:Nat→Prop}(c1:Chg D w w4)(n1:∀k,D4 k→D k∨w.heap.size≤k)(c2:Chg D4 w4 w6)(n2:∀k,D6 k→D4 k∨w4.heap.size≤k):Chg D w w6∧∀k,D6 k→D k∨w.heap.size≤k:=
 ⟨c1.more c2 (fun i hi hd=>by
  rcases n1 i hd with h|h
  ·exact h
  ·omega),fun k hk=>by
  rcases n2 k hk with h|h
  ·exact n1 k h
  ·exact .inr (Nat.le_trans c1.size h)⟩
theorem rjoins_t{a b:Int}(ha:a=0∨modeB a=true)(hb:modeB b=true)(w:World):Calls prog 27 #[I a,I b] w fun e w'=>e=.returned (I (joinI a b))∧w'=w:=by
 have hj:jm b:=.inr (by simpa [modeB] using hb)
 rcases ha with rfl|ha
 ·exact rjoins_0 b hj w
 ·rcases mode_cases ha with rfl|rfl|rfl|rfl|rfl
  ·exact rjoins_1 b hj w
  ·exact rjoins_2 b hj w
  ·exact rjoins_3 b hj w
  ·exact rjoins_4 b hj w
  ·exact rjoins_5 b hj w
theorem ask_rnone{w:World}{b:Nat}{R:Rt}{D:Nat→Prop}(h:RT w b R D)(x:Int)(r:Rs)(mode:Int)(hn:∀e∈R.tx,(e.x==x)=false)(hl:R.tx.length<400000000000∧R.hd.length<400000000000∧R.aq.length<400000000000):Calls prog 6 #[ptr b,I x,.agg #[I r.lv,.string r.lb,I r.id],I mode] w fun e w'=>e=.returned (.tuple #[I 0,.slice none 0 0,I 80])∧G w w':=by
 obtain⟨vt,vh,va,tv,hR⟩:=h
 have gA:G w (w.alloc (.cells #[I r.lv,.string r.lb,I r.id] 33)):=(G.refl w).alloc _
 have gB:G w ((w.alloc (.cells #[I r.lv,.string r.lb,I r.id] 33)).alloc (.cells #[I r.lv,.string r.lb,I r.id] 33)):=gA.alloc _
 have hc:=(Blk.new w [I r.lv,.string r.lb,I r.id] 33).cell
 have KP:=hide (place_r (hR.G gA) x (by omega))
 rw[idxI_none hn] at KP
 have KR:=hide (res_r r (w.alloc (.cells #[I r.lv,.string r.lb,I r.id] 33)))
 have KM:=hide (fun W=>rmode_any mode W)
 have KQ:=hide (request_r (hR.G gB) x (by omega))
 clear KR KM KQ hn hc
 have HG:=hide (And.intro gA gB)
 clear hR gA gB hl
 go_enter func6,ntmps6
 go_wp2_with (first|(go_at_call 22;with_reducible refine(KP.out).mono ?_;rintro e w' ⟨rfl,rfl⟩)|fail)
 exact bodyPost_ret (v:=.tuple #[.int .i64 0,.slice none 0 0,.int .i64 80]) (by simp[results,results6,go_sem]) rfl ⟨rfl,HG.out.1⟩
theorem ask_rres{w:World}{b:Nat}{R:Rt}{D:Nat→Prop}(h:RT w b R D)(x:Int)(r:Rs)(mode:Int)(i:Nat)(hi:idxI (fun e:Tx=>e.x==x) R.tx=(i:Int))(hrb:resB r=false)(hl:R.tx.length<400000000000∧R.hd.length<400000000000∧R.aq.length<400000000000):Calls prog 6 #[ptr b,I x,.agg #[I r.lv,.string r.lb,I r.id],I mode] w fun e w'=>e=.returned (.tuple #[I 0,.slice none 0 0,I 82])∧G w w':=by
 obtain⟨vt,vh,va,tv,hR⟩:=h
 have gA:G w (w.alloc (.cells #[I r.lv,.string r.lb,I r.id] 33)):=(G.refl w).alloc _
 have gB:G w ((w.alloc (.cells #[I r.lv,.string r.lb,I r.id] 33)).alloc (.cells #[I r.lv,.string r.lb,I r.id] 33)):=gA.alloc _
 have hc:=(Blk.new w [I r.lv,.string r.lb,I r.id] 33).cell
 have KP:=hide (place_r (hR.G gA) x (by omega))
 rw[hi] at KP
 have hiI:¬(i:Int)<0:=by omega
 have KR:=hide (res_r r (w.alloc (.cells #[I r.lv,.string r.lb,I r.id] 33)))
 have KM:=hide (fun W=>rmode_any mode W)
 have KQ:=hide (request_r (hR.G gB) x (by omega))
 rw[hrb] at KR
 clear KM KQ hi hrb
 have HG:=hide (And.intro gA gB)
 clear hR gA gB hl
 go_enter func6,ntmps6
 go_wp2_with (first|(go_at_call 22;with_reducible refine(KP.out).mono ?_;rintro e w' ⟨rfl,rfl⟩)|(go_at_call 23;with_reducible refine(KR.out).mono ?_;rintro e w' ⟨rfl,rfl⟩)|fail)
 exact bodyPost_ret (v:=.tuple #[.int .i64 0,.slice none 0 0,.int .i64 82]) (by simp[results,results6,go_sem]) rfl ⟨rfl,HG.out.2⟩
theorem ask_rmode{w:World}{b:Nat}{R:Rt}{D:Nat→Prop}(h:RT w b R D)(x:Int)(r:Rs)(mode:Int)(i:Nat)(hi:idxI (fun e:Tx=>e.x==x) R.tx=(i:Int))(hrb:resB r=true)(hmb:modeB mode=false)(hl:R.tx.length<400000000000∧R.hd.length<400000000000∧R.aq.length<400000000000):Calls prog 6 #[ptr b,I x,.agg #[I r.lv,.string r.lb,I r.id],I mode] w fun e w'=>e=.returned (.tuple #[I 0,.slice none 0 0,I 81])∧G w w':=by
 obtain⟨vt,vh,va,tv,hR⟩:=h
 have gA:G w (w.alloc (.cells #[I r.lv,.string r.lb,I r.id] 33)):=(G.refl w).alloc _
 have gB:G w ((w.alloc (.cells #[I r.lv,.string r.lb,I r.id] 33)).alloc (.cells #[I r.lv,.string r.lb,I r.id] 33)):=gA.alloc _
 have hc:=(Blk.new w [I r.lv,.string r.lb,I r.id] 33).cell
 have KP:=hide (place_r (hR.G gA) x (by omega))
 rw[hi] at KP
 have hiI:¬(i:Int)<0:=by omega
 have KR:=hide (res_r r (w.alloc (.cells #[I r.lv,.string r.lb,I r.id] 33)))
 have KM:=hide (fun W=>rmode_any mode W)
 have KQ:=hide (request_r (hR.G gB) x (by omega))
 rw[hrb] at KR
 rw[hmb] at KM
 clear KQ hi hrb hmb
 have HG:=hide (And.intro gA gB)
 clear hR gA gB hl
 go_enter func6,ntmps6
 go_wp2_with (first|(go_at_call 22;with_reducible refine(KP.out).mono ?_;rintro e w' ⟨rfl,rfl⟩)|(go_at_call 23;with_reducible refine(KR.out).mono ?_;rintro e w' ⟨rfl,rfl⟩)|(go_at_call 24;with_reducible refine(KM.out _).mono ?_;rintro e w' ⟨rfl,rfl⟩)|fail)
 exact bodyPost_ret (v:=.tuple #[.int .i64 0,.slice none 0 0,.int .i64 81]) (by simp[results,results6,go_sem]) rfl ⟨rfl,HG.out.2⟩
theorem ask_rque{w:World}{b:Nat}{R:Rt}{D:Nat→Prop}(h:RT w b R D)(x:Int)(r:Rs)(mode:Int)(i:Nat)(hi:idxI (fun e:Tx=>e.x==x) R.tx=(i:Int))(hrb:resB r=true)(hmb:modeB mode=true)(n:Nat)(hq:idxI (fun e:Lk=>e.x==x) R.aq=(n:Int))(hl:R.tx.length<400000000000∧R.hd.length<400000000000∧R.aq.length<400000000000):Calls prog 6 #[ptr b,I x,.agg #[I r.lv,.string r.lb,I r.id],I mode] w fun e w'=>e=.returned (.tuple #[I 0,.slice none 0 0,I 83])∧G w w':=by
 obtain⟨vt,vh,va,tv,hR⟩:=h
 have gA:G w (w.alloc (.cells #[I r.lv,.string r.lb,I r.id] 33)):=(G.refl w).alloc _
 have gB:G w ((w.alloc (.cells #[I r.lv,.string r.lb,I r.id] 33)).alloc (.cells #[I r.lv,.string r.lb,I r.id] 33)):=gA.alloc _
 have hc:=(Blk.new w [I r.lv,.string r.lb,I r.id] 33).cell
 have KP:=hide (place_r (hR.G gA) x (by omega))
 rw[hi] at KP
 have hiI:¬(i:Int)<0:=by omega
 have KR:=hide (res_r r (w.alloc (.cells #[I r.lv,.string r.lb,I r.id] 33)))
 have KM:=hide (fun W=>rmode_any mode W)
 have KQ:=hide (request_r (hR.G gB) x (by omega))
 rw[hrb] at KR
 rw[hmb] at KM
 rw[hq] at KQ
 have hnI:(0:Int)≤(n:Int):=by omega
 clear hi hrb hmb hq
 have HG:=hide (And.intro gA gB)
 clear hR gA gB hl
 go_enter func6,ntmps6
 go_wp2_with (first|(go_at_call 22;with_reducible refine(KP.out).mono ?_;rintro e w' ⟨rfl,rfl⟩)|(go_at_call 23;with_reducible refine(KR.out).mono ?_;rintro e w' ⟨rfl,rfl⟩)|(go_at_call 24;with_reducible refine(KM.out _).mono ?_;rintro e w' ⟨rfl,rfl⟩)|(go_at_call 25;with_reducible refine(KQ.out).mono ?_;rintro e w' ⟨rfl,rfl⟩)|fail)
 exact bodyPost_ret (v:=.tuple #[.int .i64 0,.slice none 0 0,.int .i64 83]) (by simp[results,results6,go_sem]) rfl ⟨rfl,HG.out.2⟩
end
section
open Go.RowKit
def AkP(w:World)(D:Nat→Prop)(b:Nat)(m:Ms)(x:Int)(p:Pm)(r:Rs)(mode:Int)(t a:Nat)(e:Ending)(w':World):Prop:=∃(k:Int) (u:Value) (l:List Int) (c:Int) (m':Ms),e=.returned (.tuple #[I k,u,I c])∧w'.ownsRow w.heap.size 3 1 u l.length (l.map fun z=>I z)∧RX w w' b D m' t a∧AskK m x p r mode k l c m'
theorem ent_len(q:Lk)(l:List Lk):(entP q l).length=l.length+1:=by
 unfold entP
 have:=entN_le q l
 rw[List.length_append,List.length_take,List.length_cons,List.length_drop];omega
theorem sj_len{m m':Ms}{tx0 TX:List Tx}{last:Int}{OUT:List Int}(h:SJ m m' tx0 last TX OUT):TX.length=tx0.length:=by
 have:=congrArg List.length h.ids
 rw[List.length_map,List.length_map] at this
 exact this
theorem ask_rheld{w:World}{b:Nat}{R:Rt}{D:Nat→Prop}{m:Ms}{L:List Int}{LR:List Rs}{x:Int}{p:Pm}{r:Rs}{mode:Int}(h:RT w b R D)(hm:RM R m)(hI:Iv m L LR)(hp:m.lv x=some p)(hg0:p.goal=0)(hr:GoodR r LR)(hmo:modeB mode=true)(i:Nat)(hi:idxI (fun e:Tx=>e.x==x) R.tx=(i:Int))(hl:R.tx.length<300000000000∧R.hd.length+R.aq.length<300000000000)(hj:joinI (p.hf r) mode=p.hf r):Calls prog 6 #[ptr b,I x,.agg #[I r.lv,.string r.lb,I r.id],I mode] w (AkP w D b m x p r mode R.tx.length (R.hd.length+R.aq.length)):=by
 have HX:Hid (RM R m∧p.goal=0∧joinI (p.hf r) mode=p.hf r∧RT w b R D):=⟨hm,hg0,hj,h⟩
 obtain⟨vt,vh,va,tv,hR⟩:=h
 have gA:G w (w.alloc (.cells #[I r.lv,.string r.lb,I r.id] 33)):=(G.refl w).alloc _
 have gB:G w ((w.alloc (.cells #[I r.lv,.string r.lb,I r.id] 33)).alloc (.cells #[I r.lv,.string r.lb,I r.id] 33)):=gA.alloc _
 have hc:=(Blk.new w [I r.lv,.string r.lb,I r.id] 33).cell
 have hc2:=((Blk.new w [I r.lv,.string r.lb,I r.id] 33).G ((G.refl _).alloc (.cells #[I r.lv,.string r.lb,I r.id] 33))).cell
 have KP:=hide (place_r (hR.G gA) x (by omega))
 rw[hi] at KP
 have hiI:¬(i:Int)<0:=by omega
 have KR:=hide (res_r r (w.alloc (.cells #[I r.lv,.string r.lb,I r.id] 33)))
 rw[(resB_iff r).2 hr.2.2] at KR
 have KM:=hide (fun W=>rmode_any mode W)
 rw[hmo] at KM
 have KQ:=hide (request_r (hR.G gB) x (by omega))
 have hnq:∀e∈R.aq,(e.x==x)=false:=fun e he=>by
  cases he2:(e.x==x)with
  | false=>rfl
  | true=>
   exfalso
   have hex:e.x=x:=by simpa using he2
   refine no_req hI hp hg0 e.r e.c ?_
   rw[←hm.hq.qa,←hex]
   exact queP_mem.2 ⟨e,he,rfl,rfl,rfl⟩
 rw[idxI_none hnq] at KQ
 have KH:=hide (heldBy_r (hR.G gB) x r (by omega))
 rw[hm.hq.hb,hl_some hp] at KH
 have hm0:p.hf r=0∨modeB (p.hf r)=true:=by rw[←hl_some hp r];exact hI.mode r x
 have KJ:=hide (fun W=>rjoins_t hm0 hmo W)
 rw[hj] at KJ
 obtain⟨hv,hhv⟩:∃hv,hv=p.hf r:=⟨_,rfl⟩
 rw[←hhv] at KH KJ
 have HG:=hide gB
 clear hR gA gB hl hm hI hp hg0 hr hmo hi hnq hm0 hj hhv
 go_enter func6,ntmps6
 go_wp2_with (first|(go_at_call 22;with_reducible refine(KP.out).mono ?_;rintro e w' ⟨rfl,rfl⟩)|(go_at_call 23;with_reducible refine(KR.out).mono ?_;rintro e w' ⟨rfl,rfl⟩)|(go_at_call 24;with_reducible refine(KM.out _).mono ?_;rintro e w' ⟨rfl,rfl⟩)|(go_at_call 25;with_reducible refine(KQ.out).mono ?_;rintro e w' ⟨rfl,rfl⟩)|(go_at_call 26;with_reducible refine(KH.out).mono ?_;rintro e w3 ⟨rfl,g3⟩)|(go_at_call 27;with_reducible refine(KJ.out _).mono ?_;rintro e w' ⟨rfl,rfl⟩)|fail)
 exact bodyPost_ret (v:=.tuple #[.int .i64 1,.slice none 0 0,.int .i64 0]) (by simp[results,results6,go_sem]) rfl ⟨1,_,[],0,m,rfl,⟨rfl,.inl ⟨rfl,rfl⟩⟩,⟨R,D,HX.out.2.2.2.G (HG.out.trans g3),HX.out.1,(HG.out.trans g3).chg,fun k hk=>.inl hk,Nat.le_refl _,Nat.le_refl _⟩,.inr ⟨HX.out.2.1,rfl,.inl ⟨HX.out.2.2.1,rfl,rfl,rfl⟩⟩⟩
theorem ask_rgo_false{w:World}{b:Nat}{R:Rt}{D:Nat→Prop}{m:Ms}{L:List Int}{LR:List Rs}{x:Int}{p:Pm}{r:Rs}{mode:Int}(h:RT w b R D)(hm:RM R m)(hI:Iv m L LR)(hp:m.lv x=some p)(hg0:p.goal=0)(hr:GoodR r LR)(hmo:modeB mode=true)(i:Nat)(hi:idxI (fun e:Tx=>e.x==x) R.tx=(i:Int))(hl:R.tx.length<300000000000∧R.hd.length+R.aq.length<300000000000)(hj:joinI (p.hf r) mode≠p.hf r)(hz:p.hf r=0)(hL:L.length<100000000000):Calls prog 6 #[ptr b,I x,.agg #[I r.lv,.string r.lb,I r.id],I mode] w (AkP w D b m x p r mode R.tx.length (R.hd.length+R.aq.length+1)):=by
 have HRT:=hide h
 obtain⟨vt,vh,va,tv,hR⟩:=h
 have gA:G w (w.alloc (.cells #[I r.lv,.string r.lb,I r.id] 33)):=(G.refl w).alloc _
 have gB:G w ((w.alloc (.cells #[I r.lv,.string r.lb,I r.id] 33)).alloc (.cells #[I r.lv,.string r.lb,I r.id] 33)):=gA.alloc _
 have hc:=(Blk.new w [I r.lv,.string r.lb,I r.id] 33).cell
 have hc2:=((Blk.new w [I r.lv,.string r.lb,I r.id] 33).G ((G.refl _).alloc (.cells #[I r.lv,.string r.lb,I r.id] 33))).cell
 have KP:=hide (place_r (hR.G gA) x (by omega))
 rw[hi] at KP
 have hiI:¬(i:Int)<0:=by omega
 have KR:=hide (res_r r (w.alloc (.cells #[I r.lv,.string r.lb,I r.id] 33)))
 rw[(resB_iff r).2 hr.2.2] at KR
 have KM:=hide (fun W=>rmode_any mode W)
 rw[hmo] at KM
 have KQ:=hide (request_r (hR.G gB) x (by omega))
 have hnq:∀e∈R.aq,(e.x==x)=false:=fun e he=>by
  cases he2:(e.x==x)with
  | false=>rfl
  | true=>
   exfalso
   have hex:e.x=x:=by simpa using he2
   refine no_req hI hp hg0 e.r e.c ?_
   rw[←hm.hq.qa,←hex]
   exact queP_mem.2 ⟨e,he,rfl,rfl,rfl⟩
 rw[idxI_none hnq] at KQ
 have KH:=hide (heldBy_r (hR.G gB) x r (by omega))
 rw[hm.hq.hb,hl_some hp] at KH
 have hm0:p.hf r=0∨modeB (p.hf r)=true:=by rw[←hl_some hp r];exact hI.mode r x
 have KJ:=hide (fun W=>rjoins_t hm0 hmo W)
 obtain⟨g,hg⟩:∃g,g=joinI (p.hf r) mode:=⟨_,rfl⟩
 rw[←hg] at KJ hj
 have HAQ:=hide (aq_of (r:=r) (g:=g) hm hI hp hg0)
 have hdz:decide (p.hf r≠0)=false:=by simp[hz]
 rw[hdz] at HAQ
 have HI:=hide hI;have HM:=hide hm;have HP:=hide hp;have HG0:=hide hg0;have HR:=hide hr;have HMO:=hide hmo;have HG:=hide hg;have HJ:=hide hj;have HL:=hide hL;have HLL:=hide hl
 rw[hz] at KH KJ hj
 have d1:(g==0)=false:=by simp[hj]
 have d2:decide (g=0)=false:=by simp[hj]
 have HGB:=hide gB
 have HB0:=hide ((Blk.new w [I r.lv,.string r.lb,I r.id] 33).G ((G.refl _).alloc (.cells #[I r.lv,.string r.lb,I r.id] 33)))
 clear hR gA gB hl hm hI hp hg0 hr hmo hi hnq hm0 hdz hg hL
 go_enter func6,ntmps6
 go_wp2_with (first|(go_at_call 22;with_reducible refine(KP.out).mono ?_;rintro e w' ⟨rfl,rfl⟩)|(go_at_call 23;with_reducible refine(KR.out).mono ?_;rintro e w' ⟨rfl,rfl⟩)|(go_at_call 24;with_reducible refine(KM.out _).mono ?_;rintro e w' ⟨rfl,rfl⟩)|(go_at_call 25;with_reducible refine(KQ.out).mono ?_;rintro e w' ⟨rfl,rfl⟩)|(go_at_call 26;with_reducible refine(KH.out).mono ?_;rintro e w3 ⟨rfl,g3⟩;refine Hid.out ?_)|fail)
 unfold Hid
 have HG3:=hide (HGB.out.trans g3)
 have HB3:=hide (HB0.out.G g3)
 obtain⟨rb,hrb⟩:∃rb,rb=w.heap.size:=⟨_,rfl⟩
 have HRB:=hide hrb
 rw[←hrb] at HB3⊢
 have hc3:=HB3.out.cell
 obtain⟨vt3,vh3,va3,tv3,hR3⟩:=HRT.out.G HG3.out
 have KE:=hide (enter_r hR3 ⟨x,r,g,false⟩ (by have:=HLL.out;omega))
 clear g3 hc hc2 KP KR KM KQ KH HGB HB0 hrb
 go_wp2_with (first|(go_at_call 27;with_reducible refine(KJ.out _).mono ?_;rintro e w' ⟨rfl,rfl⟩)|(go_at_call 28;with_reducible refine(KE.out).mono ?_;rintro e w4 ⟨rfl,h4⟩;refine Hid.out ?_)|fail)
 unfold Hid
 obtain⟨D4,rt4,c4,n4⟩:=h4
 obtain⟨vt4,vh4,va4,tv4,hR4⟩:=rt4
 have hnD:¬D rb:=fun hd=>by
  obtain⟨_,_,_,_,h9⟩:=HRT.out
  have h10:=h9.dl rb hd
  have h11:=HRB.out
  omega
 have HB4:=hide (HB3.out.chg c4 hnD)
 have HD4:Hid (¬D4 rb):=fun hd=>by
  rcases n4 rb hd with h9|h9
  ·exact hnD h9
  ·have:=HB3.out.lt;omega
 have HC4:Hid (Chg D w w4∧∀k,D4 k→D k∨w.heap.size≤k):=⟨HG3.out.chg.trans c4,fun k hk=>by
  rcases n4 k hk with h9|h9
  ·exact .inl h9
  ·exact .inr (Nat.le_trans HG3.out.size h9)⟩
 obtain⟨n,hn⟩:∃n,n=entN ⟨x,r,g,false⟩ R.aq:=⟨_,rfl⟩
 have HN:=hide hn
 have hnn:R.aq.length+1<400000000000:=by have:=HLL.out;omega
 have hnlt:n<(entP ⟨x,r,g,false⟩ R.aq).length:=by rw[ent_len,hn];have:=entN_le ⟨x,r,g,false⟩ R.aq;omega
 have KI:=hide (inWay_r hR4 n ⟨x,r,g,false⟩ (by rw[hn];exact ent_at _ _) (show R.hd.length<400000000000∧(entP ⟨x,r,g,false⟩ R.aq).length<400000000000 by rw[ent_len];have:=HLL.out;omega))
 rw[←hn]
 have HWAY:Hid (∀y,y∈inwP ⟨R.tx,R.hd,entP ⟨x,r,g,false⟩ R.aq⟩ n ⟨x,r,g,false⟩↔inW (m.hl r) (m.qs r) x g (turnM m r x) y):=by rw[hn];exact HAQ.out.way
 have HR4:=hide hR4
 have HNL:=hide hnlt
 clear c4 n4 hnD hn hR4 KE KJ hnlt hnn hc3
 by_cases hway:inwP ⟨R.tx,R.hd,entP ⟨x,r,g,false⟩ R.aq⟩ n ⟨x,r,g,false⟩=[]
 ·have hb:¬∃y,inW (m.hl r) (m.qs r) x g (turnM m r x) y:=by
   rintro⟨y,hy⟩
   have:=(HWAY.out y).2 hy
   rw[hway] at this
   cases this
  have HGR:=hide (ask_grant HM.out HI.out HP.out HG0.out HR.out HMO.out HG.out hb)
  have HNB:=hide hb
  rw[hway] at KI
  clear hway hb HWAY
  go_wp2_with (first|(go_at_call 29;with_reducible refine(KI.out).mono ?_;rintro e w5 ⟨vw,rfl,o5,g5⟩;obtain⟨wya,wyc,rfl⟩:=row_form o5;refine Hid.out ?_)|fail)
  unfold Hid
  have HB5:=hide (HB4.out.G g5)
  have HC5:=hide (HC4.out.1.trans g5.chg)
  have KL:=hide (leave_r (HR4.out.G g5) n HNL.out (show(entP ⟨x,r,g,false⟩ R.aq).length<400000000000 by rw[ent_len];have:=HLL.out;omega))
  have HCE:Hid (cutP n (entP ⟨x,r,g,false⟩ R.aq)=R.aq):=by rw[HN.out];exact cutP_ent _ _
  clear o5 g5 KI
  go_wp2_with (first|(go_at_call 31;with_reducible refine(KL.out).mono ?_;rintro e w6 ⟨rfl,h6⟩;refine Hid.out ?_)|fail)
  unfold Hid
  obtain⟨D6,rt6,c6,n6⟩:=h6
  rw[HCE.out] at rt6
  obtain⟨vt6,vh6,va6,tv6,hR6⟩:=rt6
  have HC6:=hide (chg_next HC5.out HC4.out.2 c6 n6)
  have HB6:=hide (HB5.out.chg c6 HD4.out)
  have HD6:Hid (¬D6 rb):=fun hd=>by
   rcases n6 rb hd with h9|h9
   ·exact HD4.out h9
   ·have:=HB5.out.lt;omega
  have KO:=hide (hold_r hR6 x r g (show R.hd.length<400000000000 by have:=HLL.out;omega))
  have hc6:=HB6.out.cell
  clear c6 n6 hR6 KL
  go_wp2_with (first|(go_at_call 32;with_reducible refine(KO.out).mono ?_;rintro e w7 ⟨rfl,h7⟩;refine Hid.out ?_)|fail)
  unfold Hid
  obtain⟨D7,rt7,c7,n7⟩:=h7
  obtain⟨vt7,vh7,va7,tv7,hR7⟩:=rt7
  have HC7:=hide (chg_next HC6.out.1 HC6.out.2 c7 n7)
  have hol:=hol_len x r g R.hd
  have KW:=hide (wounds_r hR7 (SJ m (mGrant m x p r g (turnM m r x)) R.tx) (wj (R:=⟨R.tx,holP x r g R.hd,R.aq⟩) HM.out.tx HGR.out.2.2.1 HGR.out.2.1 HI.out HGR.out.1 HL.out) (SJ.start HGR.out.2.1 HM.out.tx) (show R.tx.length<400000000000∧(holP x r g R.hd).length<400000000000∧R.aq.length<400000000000 by have:=HLL.out;omega))
  have HOL:=hide hol
  clear c7 n7 hR7 KO hc6 hol
  go_wp2_with (first|(go_at_call 30;(with_reducible refine(KW.out).mono ?_);rintro e w8 ⟨v8,OUT,TX,last,D8,rfl,hj8,hmax,o8,rt8,c8,n8,nd8⟩)|fail)
  have hfin:=wj_fin (R:=⟨R.tx,holP x r g R.hd,R.aq⟩) HM.out.tx HGR.out.2.2.1 HGR.out.2.1 HGR.out.2.2.2 hj8 (fun a ha=>by have:=hmax a ha;omega)
  obtain⟨c9,n9⟩:=chg_next HC7.out.1 HC7.out.2 c8 n8
  exact bodyPost_ret (v:=.tuple #[.int .i64 1,v8,.int .i64 0]) (by simp[results,results6,go_sem]) rfl ⟨1,v8,OUT,0,_,rfl,own_lo o8 HC7.out.1.size,⟨_,D8,rt8,hfin.1,c9,n9,Nat.le_of_eq (sj_len hj8),by have:=HOL.out;show(holP x r g R.hd).length+R.aq.length≤_;omega⟩,.inr ⟨HG0.out,rfl,.inr ⟨by rw[←HG.out];exact HJ.out,by rw[←HG.out];exact⟨.inl ⟨HNB.out,rfl,rfl⟩,hfin.2.1,hfin.2.2⟩⟩⟩⟩
 ·have hb:∃y,inW (m.hl r) (m.qs r) x g (turnM m r x) y:=by
   obtain⟨y,hy⟩:=List.exists_mem_of_ne_nil _ hway
   exact⟨y,(HWAY.out y).1 hy⟩
  have HWT:=hide (ask_wait HI.out HP.out HG0.out HR.out HMO.out HG.out hb HAQ.out)
  have HBB:=hide hb
  have hwl:0<(inwP ⟨R.tx,R.hd,entP ⟨x,r,g,false⟩ R.aq⟩ n ⟨x,r,g,false⟩).length:=List.length_pos_iff.2 hway
  obtain⟨way,hwe⟩:∃way,way=inwP ⟨R.tx,R.hd,entP ⟨x,r,g,false⟩ R.aq⟩ n ⟨x,r,g,false⟩:=⟨_,rfl⟩
  rw[←hwe] at KI hwl
  have d4:decide (0<way.length)=true:=by simp[hwl]
  have d5:(0:Int)<(way.length:Int):=by omega
  clear hway hwe hb HWAY
  go_wp2_with (first|(go_at_call 29;with_reducible refine(KI.out).mono ?_;rintro e w5 ⟨vw,rfl,o5,g5⟩;obtain⟨wya,wyc,rfl⟩:=row_form o5;refine Hid.out ?_)|fail)
  unfold Hid
  have HC5:=hide (HC4.out.1.trans g5.chg)
  have KW:=hide (wounds_r (HR4.out.G g5) (SJ m (mWait m x p r g (turnM m r x)) R.tx) (wj (R:=⟨R.tx,R.hd,entP ⟨x,r,g,false⟩ R.aq⟩) HM.out.tx HWT.out.2.2.1 HWT.out.2.1 HI.out HWT.out.1 HL.out) (SJ.start HWT.out.2.1 HM.out.tx) (show R.tx.length<400000000000∧R.hd.length<400000000000∧(entP ⟨x,r,g,false⟩ R.aq).length<400000000000 by rw[ent_len];have:=HLL.out;omega))
  clear o5 g5 KI
  go_wp2_with (first|(go_at_call 30;(with_reducible refine(KW.out).mono ?_);rintro e w8 ⟨v8,OUT,TX,last,D8,rfl,hj8,hmax,o8,rt8,c8,n8,nd8⟩)|fail)
  have hfin:=wj_fin (R:=⟨R.tx,R.hd,entP ⟨x,r,g,false⟩ R.aq⟩) HM.out.tx HWT.out.2.2.1 HWT.out.2.1 HWT.out.2.2.2 hj8 (fun a ha=>by have:=hmax a ha;omega)
  obtain⟨c9,n9⟩:=chg_next HC5.out HC4.out.2 c8 n8
  exact bodyPost_ret (v:=.tuple #[.int .i64 2,v8,.int .i64 0]) (by simp[results,results6,go_sem]) rfl ⟨2,v8,OUT,0,_,rfl,own_lo o8 HC5.out.size,⟨_,D8,rt8,hfin.1,c9,n9,Nat.le_of_eq (sj_len hj8),by show R.hd.length+(entP ⟨x,r,g,false⟩ R.aq).length≤_;rw[ent_len];omega⟩,.inr ⟨HG0.out,rfl,.inr ⟨by rw[←HG.out];exact HJ.out,by rw[←HG.out];exact⟨.inr ⟨HBB.out,rfl,rfl⟩,hfin.2.1,hfin.2.2⟩⟩⟩⟩
theorem ask_rgo_true{w:World}{b:Nat}{R:Rt}{D:Nat→Prop}{m:Ms}{L:List Int}{LR:List Rs}{x:Int}{p:Pm}{r:Rs}{mode:Int}(h:RT w b R D)(hm:RM R m)(hI:Iv m L LR)(hp:m.lv x=some p)(hg0:p.goal=0)(hr:GoodR r LR)(hmo:modeB mode=true)(i:Nat)(hi:idxI (fun e:Tx=>e.x==x) R.tx=(i:Int))(hl:R.tx.length<300000000000∧R.hd.length+R.aq.length<300000000000)(hj:joinI (p.hf r) mode≠p.hf r)(hz:p.hf r≠0)(hL:L.length<100000000000):Calls prog 6 #[ptr b,I x,.agg #[I r.lv,.string r.lb,I r.id],I mode] w (AkP w D b m x p r mode R.tx.length (R.hd.length+R.aq.length+1)):=by
 have HRT:=hide h
 obtain⟨vt,vh,va,tv,hR⟩:=h
 have gA:G w (w.alloc (.cells #[I r.lv,.string r.lb,I r.id] 33)):=(G.refl w).alloc _
 have gB:G w ((w.alloc (.cells #[I r.lv,.string r.lb,I r.id] 33)).alloc (.cells #[I r.lv,.string r.lb,I r.id] 33)):=gA.alloc _
 have hc:=(Blk.new w [I r.lv,.string r.lb,I r.id] 33).cell
 have hc2:=((Blk.new w [I r.lv,.string r.lb,I r.id] 33).G ((G.refl _).alloc (.cells #[I r.lv,.string r.lb,I r.id] 33))).cell
 have KP:=hide (place_r (hR.G gA) x (by omega))
 rw[hi] at KP
 have hiI:¬(i:Int)<0:=by omega
 have KR:=hide (res_r r (w.alloc (.cells #[I r.lv,.string r.lb,I r.id] 33)))
 rw[(resB_iff r).2 hr.2.2] at KR
 have KM:=hide (fun W=>rmode_any mode W)
 rw[hmo] at KM
 have KQ:=hide (request_r (hR.G gB) x (by omega))
 have hnq:∀e∈R.aq,(e.x==x)=false:=fun e he=>by
  cases he2:(e.x==x)with
  | false=>rfl
  | true=>
   exfalso
   have hex:e.x=x:=by simpa using he2
   refine no_req hI hp hg0 e.r e.c ?_
   rw[←hm.hq.qa,←hex]
   exact queP_mem.2 ⟨e,he,rfl,rfl,rfl⟩
 rw[idxI_none hnq] at KQ
 have KH:=hide (heldBy_r (hR.G gB) x r (by omega))
 rw[hm.hq.hb,hl_some hp] at KH
 have hm0:p.hf r=0∨modeB (p.hf r)=true:=by rw[←hl_some hp r];exact hI.mode r x
 have KJ:=hide (fun W=>rjoins_t hm0 hmo W)
 obtain⟨g,hg⟩:∃g,g=joinI (p.hf r) mode:=⟨_,rfl⟩
 rw[←hg] at KJ hj
 have HAQ:=hide (aq_of (r:=r) (g:=g) hm hI hp hg0)
 have hdz:decide (p.hf r≠0)=true:=by simp[hz]
 rw[hdz] at HAQ
 have HI:=hide hI;have HM:=hide hm;have HP:=hide hp;have HG0:=hide hg0;have HR:=hide hr;have HMO:=hide hmo;have HG:=hide hg;have HJ:=hide hj;have HL:=hide hL;have HLL:=hide hl
 obtain⟨hv,hhv⟩:∃hv,hv=p.hf r:=⟨_,rfl⟩
 rw[←hhv] at KH KJ hj hz
 have d0:(hv != 0)=true:=by simp[hz]
 have d00:(hv==0)=false:=by simp[hz]
 clear hhv
 have d1:(g==hv)=false:=by simp[hj]
 have d2:decide (g=hv)=false:=by simp[hj]
 have HGB:=hide gB
 have HB0:=hide ((Blk.new w [I r.lv,.string r.lb,I r.id] 33).G ((G.refl _).alloc (.cells #[I r.lv,.string r.lb,I r.id] 33)))
 clear hR gA gB hl hm hI hp hg0 hr hmo hi hnq hm0 hdz hg hL
 go_enter func6,ntmps6
 go_wp2_with (first|(go_at_call 22;with_reducible refine(KP.out).mono ?_;rintro e w' ⟨rfl,rfl⟩)|(go_at_call 23;with_reducible refine(KR.out).mono ?_;rintro e w' ⟨rfl,rfl⟩)|(go_at_call 24;with_reducible refine(KM.out _).mono ?_;rintro e w' ⟨rfl,rfl⟩)|(go_at_call 25;with_reducible refine(KQ.out).mono ?_;rintro e w' ⟨rfl,rfl⟩)|(go_at_call 26;with_reducible refine(KH.out).mono ?_;rintro e w3 ⟨rfl,g3⟩;refine Hid.out ?_)|fail)
 unfold Hid
 have HG3:=hide (HGB.out.trans g3)
 have HB3:=hide (HB0.out.G g3)
 obtain⟨rb,hrb⟩:∃rb,rb=w.heap.size:=⟨_,rfl⟩
 have HRB:=hide hrb
 rw[←hrb] at HB3⊢
 have hc3:=HB3.out.cell
 obtain⟨vt3,vh3,va3,tv3,hR3⟩:=HRT.out.G HG3.out
 have KE:=hide (enter_r hR3 ⟨x,r,g,true⟩ (by have:=HLL.out;omega))
 clear g3 hc hc2 KP KR KM KQ KH HGB HB0 hrb
 go_wp2_with (first|(go_at_call 27;with_reducible refine(KJ.out _).mono ?_;rintro e w' ⟨rfl,rfl⟩)|(go_at_call 28;with_reducible refine(KE.out).mono ?_;rintro e w4 ⟨rfl,h4⟩;refine Hid.out ?_)|fail)
 unfold Hid
 obtain⟨D4,rt4,c4,n4⟩:=h4
 obtain⟨vt4,vh4,va4,tv4,hR4⟩:=rt4
 have hnD:¬D rb:=fun hd=>by
  obtain⟨_,_,_,_,h9⟩:=HRT.out
  have h10:=h9.dl rb hd
  have h11:=HRB.out
  omega
 have HB4:=hide (HB3.out.chg c4 hnD)
 have HD4:Hid (¬D4 rb):=fun hd=>by
  rcases n4 rb hd with h9|h9
  ·exact hnD h9
  ·have:=HB3.out.lt;omega
 have HC4:Hid (Chg D w w4∧∀k,D4 k→D k∨w.heap.size≤k):=⟨HG3.out.chg.trans c4,fun k hk=>by
  rcases n4 k hk with h9|h9
  ·exact .inl h9
  ·exact .inr (Nat.le_trans HG3.out.size h9)⟩
 obtain⟨n,hn⟩:∃n,n=entN ⟨x,r,g,true⟩ R.aq:=⟨_,rfl⟩
 have HN:=hide hn
 have hnn:R.aq.length+1<400000000000:=by have:=HLL.out;omega
 have hnlt:n<(entP ⟨x,r,g,true⟩ R.aq).length:=by rw[ent_len,hn];have:=entN_le ⟨x,r,g,true⟩ R.aq;omega
 have KI:=hide (inWay_r hR4 n ⟨x,r,g,true⟩ (by rw[hn];exact ent_at _ _) (show R.hd.length<400000000000∧(entP ⟨x,r,g,true⟩ R.aq).length<400000000000 by rw[ent_len];have:=HLL.out;omega))
 rw[←hn]
 have HWAY:Hid (∀y,y∈inwP ⟨R.tx,R.hd,entP ⟨x,r,g,true⟩ R.aq⟩ n ⟨x,r,g,true⟩↔inW (m.hl r) (m.qs r) x g (turnM m r x) y):=by rw[hn];exact HAQ.out.way
 have HR4:=hide hR4
 have HNL:=hide hnlt
 clear c4 n4 hnD hn hR4 KE KJ hnlt hnn hc3
 by_cases hway:inwP ⟨R.tx,R.hd,entP ⟨x,r,g,true⟩ R.aq⟩ n ⟨x,r,g,true⟩=[]
 ·have hb:¬∃y,inW (m.hl r) (m.qs r) x g (turnM m r x) y:=by
   rintro⟨y,hy⟩
   have:=(HWAY.out y).2 hy
   rw[hway] at this
   cases this
  have HGR:=hide (ask_grant HM.out HI.out HP.out HG0.out HR.out HMO.out HG.out hb)
  have HNB:=hide hb
  rw[hway] at KI
  clear hway hb HWAY
  go_wp2_with (first|(go_at_call 29;with_reducible refine(KI.out).mono ?_;rintro e w5 ⟨vw,rfl,o5,g5⟩;obtain⟨wya,wyc,rfl⟩:=row_form o5;refine Hid.out ?_)|fail)
  unfold Hid
  have HB5:=hide (HB4.out.G g5)
  have HC5:=hide (HC4.out.1.trans g5.chg)
  have KL:=hide (leave_r (HR4.out.G g5) n HNL.out (show(entP ⟨x,r,g,true⟩ R.aq).length<400000000000 by rw[ent_len];have:=HLL.out;omega))
  have HCE:Hid (cutP n (entP ⟨x,r,g,true⟩ R.aq)=R.aq):=by rw[HN.out];exact cutP_ent _ _
  clear o5 g5 KI
  go_wp2_with (first|(go_at_call 31;with_reducible refine(KL.out).mono ?_;rintro e w6 ⟨rfl,h6⟩;refine Hid.out ?_)|fail)
  unfold Hid
  obtain⟨D6,rt6,c6,n6⟩:=h6
  rw[HCE.out] at rt6
  obtain⟨vt6,vh6,va6,tv6,hR6⟩:=rt6
  have HC6:=hide (chg_next HC5.out HC4.out.2 c6 n6)
  have HB6:=hide (HB5.out.chg c6 HD4.out)
  have HD6:Hid (¬D6 rb):=fun hd=>by
   rcases n6 rb hd with h9|h9
   ·exact HD4.out h9
   ·have:=HB5.out.lt;omega
  have KO:=hide (hold_r hR6 x r g (show R.hd.length<400000000000 by have:=HLL.out;omega))
  have hc6:=HB6.out.cell
  clear c6 n6 hR6 KL
  go_wp2_with (first|(go_at_call 32;with_reducible refine(KO.out).mono ?_;rintro e w7 ⟨rfl,h7⟩;refine Hid.out ?_)|fail)
  unfold Hid
  obtain⟨D7,rt7,c7,n7⟩:=h7
  obtain⟨vt7,vh7,va7,tv7,hR7⟩:=rt7
  have HC7:=hide (chg_next HC6.out.1 HC6.out.2 c7 n7)
  have hol:=hol_len x r g R.hd
  have KW:=hide (wounds_r hR7 (SJ m (mGrant m x p r g (turnM m r x)) R.tx) (wj (R:=⟨R.tx,holP x r g R.hd,R.aq⟩) HM.out.tx HGR.out.2.2.1 HGR.out.2.1 HI.out HGR.out.1 HL.out) (SJ.start HGR.out.2.1 HM.out.tx) (show R.tx.length<400000000000∧(holP x r g R.hd).length<400000000000∧R.aq.length<400000000000 by have:=HLL.out;omega))
  have HOL:=hide hol
  clear c7 n7 hR7 KO hc6 hol
  go_wp2_with (first|(go_at_call 30;(with_reducible refine(KW.out).mono ?_);rintro e w8 ⟨v8,OUT,TX,last,D8,rfl,hj8,hmax,o8,rt8,c8,n8,nd8⟩)|fail)
  have hfin:=wj_fin (R:=⟨R.tx,holP x r g R.hd,R.aq⟩) HM.out.tx HGR.out.2.2.1 HGR.out.2.1 HGR.out.2.2.2 hj8 (fun a ha=>by have:=hmax a ha;omega)
  obtain⟨c9,n9⟩:=chg_next HC7.out.1 HC7.out.2 c8 n8
  exact bodyPost_ret (v:=.tuple #[.int .i64 1,v8,.int .i64 0]) (by simp[results,results6,go_sem]) rfl ⟨1,v8,OUT,0,_,rfl,own_lo o8 HC7.out.1.size,⟨_,D8,rt8,hfin.1,c9,n9,Nat.le_of_eq (sj_len hj8),by have:=HOL.out;show(holP x r g R.hd).length+R.aq.length≤_;omega⟩,.inr ⟨HG0.out,rfl,.inr ⟨by rw[←HG.out];exact HJ.out,by rw[←HG.out];exact⟨.inl ⟨HNB.out,rfl,rfl⟩,hfin.2.1,hfin.2.2⟩⟩⟩⟩
 ·have hb:∃y,inW (m.hl r) (m.qs r) x g (turnM m r x) y:=by
   obtain⟨y,hy⟩:=List.exists_mem_of_ne_nil _ hway
   exact⟨y,(HWAY.out y).1 hy⟩
  have HWT:=hide (ask_wait HI.out HP.out HG0.out HR.out HMO.out HG.out hb HAQ.out)
  have HBB:=hide hb
  have hwl:0<(inwP ⟨R.tx,R.hd,entP ⟨x,r,g,true⟩ R.aq⟩ n ⟨x,r,g,true⟩).length:=List.length_pos_iff.2 hway
  obtain⟨way,hwe⟩:∃way,way=inwP ⟨R.tx,R.hd,entP ⟨x,r,g,true⟩ R.aq⟩ n ⟨x,r,g,true⟩:=⟨_,rfl⟩
  rw[←hwe] at KI hwl
  have d4:decide (0<way.length)=true:=by simp[hwl]
  have d5:(0:Int)<(way.length:Int):=by omega
  clear hway hwe hb HWAY
  go_wp2_with (first|(go_at_call 29;with_reducible refine(KI.out).mono ?_;rintro e w5 ⟨vw,rfl,o5,g5⟩;obtain⟨wya,wyc,rfl⟩:=row_form o5;refine Hid.out ?_)|fail)
  unfold Hid
  have HC5:=hide (HC4.out.1.trans g5.chg)
  have KW:=hide (wounds_r (HR4.out.G g5) (SJ m (mWait m x p r g (turnM m r x)) R.tx) (wj (R:=⟨R.tx,R.hd,entP ⟨x,r,g,true⟩ R.aq⟩) HM.out.tx HWT.out.2.2.1 HWT.out.2.1 HI.out HWT.out.1 HL.out) (SJ.start HWT.out.2.1 HM.out.tx) (show R.tx.length<400000000000∧R.hd.length<400000000000∧(entP ⟨x,r,g,true⟩ R.aq).length<400000000000 by rw[ent_len];have:=HLL.out;omega))
  clear o5 g5 KI
  go_wp2_with (first|(go_at_call 30;(with_reducible refine(KW.out).mono ?_);rintro e w8 ⟨v8,OUT,TX,last,D8,rfl,hj8,hmax,o8,rt8,c8,n8,nd8⟩)|fail)
  have hfin:=wj_fin (R:=⟨R.tx,R.hd,entP ⟨x,r,g,true⟩ R.aq⟩) HM.out.tx HWT.out.2.2.1 HWT.out.2.1 HWT.out.2.2.2 hj8 (fun a ha=>by have:=hmax a ha;omega)
  obtain⟨c9,n9⟩:=chg_next HC5.out HC4.out.2 c8 n8
  exact bodyPost_ret (v:=.tuple #[.int .i64 2,v8,.int .i64 0]) (by simp[results,results6,go_sem]) rfl ⟨2,v8,OUT,0,_,rfl,own_lo o8 HC5.out.size,⟨_,D8,rt8,hfin.1,c9,n9,Nat.le_of_eq (sj_len hj8),by show R.hd.length+(entP ⟨x,r,g,true⟩ R.aq).length≤_;rw[ent_len];omega⟩,.inr ⟨HG0.out,rfl,.inr ⟨by rw[←HG.out];exact HJ.out,by rw[←HG.out];exact⟨.inr ⟨HBB.out,rfl,rfl⟩,hfin.2.1,hfin.2.2⟩⟩⟩⟩
end
section
open Go.RowKit
section
variable {m:Ms} {L:List Int} {LR:List Rs} {r:Rs}
theorem srvM_end{f:Nat}{a:Nat}{out:List Int}(h:(m.qs r)[a]?=none):srvM r f m a out=(m,out):=by
 cases f with
 | zero=>rfl
 | succ f=>simp only[srvM,h]
theorem srvM_idle(h:BlA m r (m.qs r).length):∀(f a:Nat) (out:List Int),srvM r f m a out=(m,out)
 | 0,a,out=>rfl
 | f+1,a,out=>by
  cases hq:(m.qs r)[a]? with
  | none=>exact srvM_end hq
  | some o=>
   obtain⟨y,g⟩:=o
   rw[srvM_blk hq (h a y g (List.getElem?_eq_some_iff.1 hq).1 hq)]
   exact srvM_idle h f (a+1) out
theorem endF_idle{t:Ms×List Int}(h:BlA t.1 r (t.1.qs r).length):endF t r=t:=by
 unfold endF
 rw[srvM_idle h]
 simp
theorem srvM_other{r':Rs}(e:r'≠r):∀(f:Nat) (m:Ms) (a:Nat) (out:List Int),(srvM r f m a out).1.qs r'=m.qs r'∧(srvM r f m a out).1.hl r'=m.hl r'
 | 0,m,a,out=>⟨rfl,rfl⟩
 | f+1,m,a,out=>by
  cases hq:(m.qs r)[a]? with
  | none=>rw[srvM_end hq];exact⟨rfl,rfl⟩
  | some o=>
   obtain⟨y,g⟩:=o
   by_cases hb:∃z,inW (m.hl r) (m.qs r) y g a z
   ·rw[srvM_blk hq hb];exact srvM_other e f m (a+1) out
   ·cases hp:m.lv y with
    | none=>
     have:srvM r (f+1) m a out=(m,out):=by
      simp only[srvM,hq,hp]
      exact @if_neg _ (Classical.propDecidable _) hb _ _ _
     rw[this];exact⟨rfl,rfl⟩
    | some p=>
     rw[srvM_get hq hb hp]
     obtain⟨h1,h2⟩:=srvM_other e f (mServe m y p r g a) a (out++[y])
     exact⟨by rw[h1,mServe_qo e],by rw[h2,mServe_ho hp e]⟩
theorem endF_other{r':Rs}(e:r'≠r)(t:Ms×List Int):(endF t r).1.qs r'=t.1.qs r'∧(endF t r).1.hl r'=t.1.hl r':=srvM_other e _ _ _ _
theorem bla_same{m m':Ms}{a:Nat}(h1:m'.qs r=m.qs r)(h2:m'.hl r=m.hl r)(h:BlA m r a):BlA m' r a:=fun i x g hi hq=>by
 rw[h1] at hq⊢
 rw[h2]
 exact h i x g hi hq
theorem fold_skip(P:Rs→Bool):∀(l:List Rs) (t:Ms×List Int),l.Nodup→(∀r∈l,P r=false→BlA t.1 r (t.1.qs r).length)→l.foldl endF t=(l.filter P).foldl endF t
 | [],t,_,_=>rfl
 | r::l,t,hn,h=>by
  obtain⟨n1,n2⟩:=List.nodup_cons.1 hn
  have hk:∀r'∈l,P r'=false→BlA (endF t r).1 r' ((endF t r).1.qs r').length:=fun r' hr' hp=>by
   have e:r'≠r:=fun e=>n1 (by rw[←e];exact hr')
   obtain⟨h1,h2⟩:=endF_other e t
   rw[h1]
   exact bla_same h1 h2 (h r' (List.mem_cons_of_mem _ hr') hp)
  show l.foldl endF (endF t r)=_
  cases hp:P r with
  | true=>
   rw[List.filter_cons_of_pos hp]
   exact fold_skip P l (endF t r) n2 hk
  | false=>
   rw[List.filter_cons_of_neg (by simp[hp]),endF_idle (h r (List.mem_cons_self) hp)]
   exact fold_skip P l t n2 (fun r' hr' hp'=>h r' (List.mem_cons_of_mem _ hr') hp')
theorem fold_two{l1 l2:List Rs}(h1:l1.Pairwise rLt)(h2:l2.Pairwise rLt){t:Ms×List Int}(k1:∀r,r∉l1→BlA t.1 r (t.1.qs r).length)(k2:∀r,r∉l2→BlA t.1 r (t.1.qs r).length):l1.foldl endF t=l2.foldl endF t:=by
 have nd:∀{l:List Rs},l.Pairwise rLt→l.Nodup:=fun h=>h.imp (fun hh e=>by subst e;exact rLt_irrefl _ hh)
 rw[fold_skip (fun r=>decide (r∈l2)) l1 t (nd h1) (fun r _ hp=>k2 r (by simpa using hp)),fold_skip (fun r=>decide (r∈l1)) l2 t (nd h2) (fun r _ hp=>k1 r (by simpa using hp))]
 congr 1
 refine rise_one (fun a b h=>rLt_asym h) _ _ (h1.sublist List.filter_sublist) (h2.sublist List.filter_sublist) (fun a=>?_)
 rw[List.mem_filter,List.mem_filter]
 simp[and_comm]
end
def EJ(L:List Int)(LR:List Rs)(N:Nat)(t0:Ms×List Int)(rs:List Rs)(i n:Nat)(hd aq:List Lk)(got:List Int):Prop:=
 ∃(mc:Ms) (out:List Int) (f:Nat),HQ hd aq mc.hl mc.qs∧Iw mc L LR∧got=((rs.take i).foldl endF t0).2++out∧
  (∀r,rs[i]?=some r→srvM r f mc (queP r (aq.take n)).length out=srvM r (((rs.take i).foldl endF t0).1.qs r).length ((rs.take i).foldl endF t0).1 0 []∧(mc.qs r).length≤(queP r (aq.take n)).length+f)∧
  (rs[i]?=none→mc=((rs.take i).foldl endF t0).1∧out=[])∧hd.length+aq.length≤N∧got.length+aq.length≤N
theorem que_take{l:List Lk}{n:Nat}{q:Lk}(h:l[n]?=some q)(r:Rs):queP r (l.take (n+1))=if q.r=r then queP r (l.take n)++[(q.x,q.c)] else queP r (l.take n):=by
 rw[take_lk h,queP_snoc]
theorem gj_end{L:List Int}{LR:List Rs}{N:Nat}(hN:N<400000000000)(t0:Ms×List Int)(rs:List Rs)(tx:List Tx):GJ tx rs (EJ L LR N t0 rs):=by
 refine⟨fun i n hd aq got hj=>?_,fun i hd aq got hi hj=>?_,fun i n hd aq got r q hj hr hq hne=>?_,fun i n hd aq got r q hj hr hq he hw=>?_,fun i n hd aq got r q hj hr hq he hw=>?_⟩
 ·obtain⟨mc,out,f,-,-,-,-,-,h6,h7⟩:=hj
  omega
 ·obtain⟨mc,out,f,h1,h2,h3,h4,-,h6,h7⟩:=hj
  obtain⟨r,hr⟩:∃r,rs[i]?=some r:=⟨_,List.getElem?_eq_getElem hi⟩
  obtain⟨h8,-⟩:=h4 r hr
  rw[List.take_length,h1.qa,srvM_end (List.getElem?_eq_none (Nat.le_refl _))] at h8
  have hT:(rs.take (i+1)).foldl endF t0=(mc,got):=by
   rw[List.take_add_one,hr,List.foldl_append]
   show((srvM r (((rs.take i).foldl endF t0).1.qs r).length ((rs.take i).foldl endF t0).1 0 []).1,((rs.take i).foldl endF t0).2++(srvM r (((rs.take i).foldl endF t0).1.qs r).length ((rs.take i).foldl endF t0).1 0 []).2)=_
   rw[←h8,h3]
  refine⟨mc,[],((rs[i+1]?).map fun r=>(mc.qs r).length).getD 0,h1,h2,by rw[hT];simp,fun r' hr'=>?_,fun _=>⟨by rw[hT],rfl⟩,h6,h7⟩
  rw[hr',hT,List.take_zero]
  exact⟨rfl,by simp⟩
 ·obtain⟨mc,out,f,h1,h2,h3,h4,h5,h6,h7⟩:=hj
  refine⟨mc,out,f,h1,h2,h3,fun r' hr'=>?_,h5,h6,h7⟩
  rw[hr] at hr'
  cases hr'
  rw[que_take hq,if_neg hne]
  exact h4 r hr
 ·obtain⟨mc,out,f,h1,h2,h3,h4,h5,h6,h7⟩:=hj
  obtain⟨h8,h9⟩:=h4 r hr
  subst he
  have hat:=h1.at hq
  have hal:=(List.getElem?_eq_some_iff.1 hat).1
  obtain⟨f',rfl⟩:∃f',f=f'+1:=⟨f-1,by omega⟩
  have hb:∃z,inW (mc.hl q.r) (mc.qs q.r) q.x q.c (queP q.r (aq.take n)).length z:=by
   obtain⟨z,hz⟩:=List.exists_mem_of_ne_nil _ hw
   exact⟨z,(h1.way tx hq (h2.qn _) z).1 hz⟩
  rw[srvM_blk hat hb] at h8
  refine⟨mc,out,f',h1,h2,h3,fun r' hr'=>?_,fun hh=>?_,h6,h7⟩
  ·rw[hr] at hr'
   cases hr'
   rw[que_take hq,if_pos rfl,List.length_append,List.length_singleton]
   exact⟨h8,by omega⟩
  ·rw[hr] at hh;cases hh
 ·obtain⟨mc,out,f,h1,h2,h3,h4,h5,h6,h7⟩:=hj
  obtain⟨h8,h9⟩:=h4 r hr
  subst he
  have hat:=h1.at hq
  have hal:=(List.getElem?_eq_some_iff.1 hat).1
  have hnl:=(List.getElem?_eq_some_iff.1 hq).1
  obtain⟨f',rfl⟩:∃f',f=f'+1:=⟨f-1,by omega⟩
  have hb:¬∃z,inW (mc.hl q.r) (mc.qs q.r) q.x q.c (queP q.r (aq.take n)).length z:=by
   rintro⟨z,hz⟩
   have:=(h1.way tx hq (h2.qn _) z).2 hz
   rw[hw] at this
   cases this
  obtain⟨p,hp,hpg,hg0,-⟩:=(h2.qm q.r q.x q.c).1 (List.mem_of_getElem? hat)
  rw[srvM_get hat hb hp] at h8
  have hcl:(cutP n aq).length=aq.length-1:=cut_len1 hnl
  have hhl:=hol_len q.x q.r q.c hd
  have htk:(cutP n aq).take n=aq.take n:=by
   unfold cutP
   rw[List.take_append_of_le_length (by rw[List.length_take];omega),List.take_take,Nat.min_self]
  refine⟨mServe mc q.x p q.r q.c (queP q.r (aq.take n)).length,out++[q.x],f',?_,iw_serve h2 hat hp hb,by rw[h3,List.append_assoc],fun r' hr'=>?_,fun hh=>?_,by omega,by rw[List.length_append,List.length_singleton];omega⟩
  ·have hcut:=h1.cut hq
   refine hcut.hold hg0 (fun g hg=>?_) ?_ (fun r' y hne=>?_)
   ·rw[upd_same] at hg
    exact((cut_mem hat (h2.qn _) q.x g).1 hg).2 rfl
   ·rw[mServe_hl hp,upd_same]
   ·by_cases e:r'=q.r
    ·subst e
     rw[mServe_hl hp,upd_other (fun e=>hne ⟨e,rfl⟩)]
    ·rw[mServe_ho hp e]
  ·rw[hr] at hr'
   cases hr'
   rw[htk]
   refine⟨h8,?_⟩
   rw[mServe_q,cut_len hal]
   omega
  ·rw[hr] at hh;cases hh
section
variable {m:Ms} {L:List Int} {LR:List Rs} {x:Int} {p:Pm} {R:Rt}
theorem ej_start{N:Nat}{t0:Ms×List Int}(h0:t0.2=[]){rs:List Rs}{hd aq:List Lk}(hq:HQ hd aq t0.1.hl t0.1.qs)(hw:Iw t0.1 L LR)(hN:hd.length+aq.length≤N):EJ L LR N t0 rs 0 0 hd aq []:=by
 refine⟨t0.1,[],((rs[0]?).map fun r=>(t0.1.qs r).length).getD 0,hq,hw,by rw[List.take_zero];show []=t0.2++[];rw[h0];rfl,fun r hr=>?_,fun _=>⟨by rw[List.take_zero];rfl,rfl⟩,hN,by simp;omega⟩
 rw[hr,List.take_zero,List.take_zero]
 exact⟨rfl,by simp⟩
theorem ej_fin{N:Nat}{t0:Ms×List Int}{rs:List Rs}{hd aq:List Lk}{got:List Int}(h:EJ L LR N t0 rs rs.length 0 hd aq got):HQ hd aq (rs.foldl endF t0).1.hl (rs.foldl endF t0).1.qs∧got=(rs.foldl endF t0).2∧hd.length+aq.length≤N:=by
 obtain⟨mc,out,f,h1,-,h3,-,h5,h6,-⟩:=h
 obtain⟨h8,h9⟩:=h5 (List.getElem?_eq_none (Nat.le_refl _))
 rw[List.take_length] at h3 h8
 rw[h9,List.append_nil] at h3
 rw[h8] at h1
 exact⟨h1,h3,h6⟩
def endR(R:Rt)(x:Int)(k:Nat):Rt:=⟨R.tx.take k++R.tx.drop (k+1),R.hd.filter (fun e=>e.x != x),match R.aq.findIdx? (fun e=>e.x==x)with|some n=>cutP n R.aq|none=>R.aq⟩
theorem end_hq(hm:RM R m)(h:Iv m L LR)(k:Nat):HQ (endR R x k).hd (endR R x k).aq (mDel m x).hl (mDel m x).qs:=by
 have hhl:(mDel m x).hl=fun r=>upd (m.hl r) x 0:=funext fun r=>mDel_hl r
 rw[hhl]
 show HQ (R.hd.filter _) (match R.aq.findIdx? (fun e=>e.x==x)with|some n=>cutP n R.aq|none=>R.aq) _ _
 cases hf:R.aq.findIdx? (fun e=>e.x==x)with
 | none=>
  rw[List.findIdx?_eq_none_iff] at hf
  have hno:∀r g,(x,g)∉m.qs r:=fun r g hg=>by
   obtain⟨i,hi⟩:=List.mem_iff_getElem?.1 hg
   exact hm.hq.none_at hf r i g hi
  have hqs:(mDel m x).qs=m.qs:=funext fun r=>noX_none (hno r)
  rw[hqs]
  exact hm.hq.del x hno
 | some n=>
  obtain⟨h1,h2,-⟩:=List.findIdx?_eq_some_iff_getElem.1 hf
  have hq:R.aq[n]?=some (R.aq[n]):=List.getElem?_eq_getElem h1
  have hqx:(R.aq[n]).x=x:=by simpa using h2
  have hat:=hm.hq.at hq
  rw[hqx] at hat
  have hqs:(mDel m x).qs=upd m.qs (R.aq[n]).r (cutQ (m.qs (R.aq[n]).r) (queP (R.aq[n]).r (R.aq.take n)).length):=funext fun r=>by
   by_cases e:r=(R.aq[n]).r
   ·rw[e,upd_same]
    exact noX_cut (h.qn _) hat
   ·rw[upd_other e]
    refine noX_none (fun g hg=>?_)
    obtain⟨p1,k1,-,-,k4⟩:=(h.qm _ _ _).1 hg
    obtain⟨p2,l1,-,-,l4⟩:=(h.qm _ _ _).1 (List.mem_of_getElem? hat)
    rw[k1] at l1
    cases l1
    exact e (k4.symm.trans l4)
  rw[hqs]
  refine(hm.hq.cut hq).del x (fun r g hg=>?_)
  rw[←hqs] at hg
  exact(noX_mem.1 hg).2 rfl
theorem end_tx(hm:RM R m){k:Nat}{e:Tx}(hk:R.tx[k]?=some e)(he:e.x=x):TXq (endR R x k).tx (mDel m x).lv:=by
 have hsp:R.tx=R.tx.take k++e::R.tx.drop (k+1):=by
  obtain⟨h1,h2⟩:=List.getElem?_eq_some_iff.1 hk
  rw[←h2,←List.drop_eq_getElem_cons h1,List.take_append_drop]
 have hnd:=hm.tx.nd
 rw[hsp,List.map_append,List.map_cons,List.nodup_append] at hnd
 obtain⟨n1,n2,n3⟩:=hnd
 obtain⟨n4,n5⟩:=List.nodup_cons.1 n2
 have hmem:∀a,a∈(endR R x k).tx→a∈R.tx∧a.x≠x:=fun a ha=>by
  rcases List.mem_append.1 (show a∈R.tx.take k++R.tx.drop (k+1)from ha)with ha|ha
  ·exact⟨List.mem_of_mem_take ha,fun hx=>n3 a.x (List.mem_map.2 ⟨a,ha,rfl⟩) e.x (List.mem_cons_self) (by rw[hx,he])⟩
  ·exact⟨List.mem_of_mem_drop ha,fun hx=>n4 (List.mem_map.2 ⟨a,ha,by rw[hx,he]⟩)⟩
 refine⟨?_,fun y p hp=>?_,fun a ha=>?_⟩
 ·show((R.tx.take k++R.tx.drop (k+1)).map Tx.x).Nodup
  rw[List.map_append,List.nodup_append]
  exact⟨n1,n5,fun a ha b hb=>n3 a ha b (List.mem_cons_of_mem _ hb)⟩
 ·obtain⟨hy,hp⟩:=mDel_lv.1 hp
  obtain⟨a,ha,hax⟩:=hm.tx.all y p hp
  rw[hsp] at ha
  refine⟨a,?_,hax⟩
  rcases List.mem_append.1 ha with ha|ha
  ·exact List.mem_append_left _ ha
  ·rcases List.mem_cons.1 ha with rfl|ha
   ·exact absurd (hax.symm.trans he) hy
   ·exact List.mem_append_right _ ha
 ·obtain⟨h1,h2⟩:=hmem a ha
  obtain⟨p,k1,k2,k3,k4⟩:=hm.tx.ok a h1
  exact⟨p,mDel_lv.2 ⟨h2,k1⟩,k2,k3,k4⟩
theorem end_same(hm:RM R m)(h:Iv m L LR)(hp:m.lv x=some p){rs:List Rs}(hrm:∀r,r∈rs↔p.hf r≠0∨(p.goal≠0∧r=p.at_))(hrs:rs.Pairwise rLt)(k:Nat):(resP (endR R x k).aq).foldl endF (mDel m x,[])=endM m x rs:=by
 have hq:=end_hq (x:=x) hm h k
 obtain⟨h1,-,h3⟩:=resP_all (endR R x k).aq
 refine fold_two h1 hrs (fun r hr=>?_) (fun r hr=>?_)
 ·have:(mDel m x).qs r=[]:=by
   rw[←hq.qa]
   unfold queP
   rw[List.map_eq_nil_iff,List.filter_eq_nil_iff]
   intro e he hh
   exact hr ((h3 r).2 ⟨e,he,by simpa using hh⟩)
  show BlA (mDel m x) r ((mDel m x).qs r).length
  rw[this]
  exact fun i _ _ hi=>absurd hi (Nat.not_lt_zero i)
 ·have hno:¬(p.hf r≠0∨(p.goal≠0∧r=p.at_)):=fun hh=>hr ((hrm r).2 hh)
  refine bla_del h ?_ (fun g hg=>?_) _
  ·rw[hl_some hp]
   exact Decidable.byContradiction (fun hh=>hno (.inl hh))
  ·obtain⟨p1,k1,k2,k3,k4⟩:=(h.qm r x g).1 hg
   rw[hp] at k1
   cases k1
   exact hno (.inr ⟨by rw[k2];exact k3,k4.symm⟩)
end
end
end Go.Proofs.YtadfaiciolfgjaaGreatDoor
