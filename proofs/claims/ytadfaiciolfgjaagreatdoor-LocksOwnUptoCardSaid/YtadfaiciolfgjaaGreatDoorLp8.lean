import Derived.Test.YtadfaiciolfgjaaGreatDoorLp6
namespace Go.Proofs.YtadfaiciolfgjaaGreatDoor
open Go.Proofs.Tryz
set_option maxHeartbeats 2000000
set_option maxRecDepth 100000
section
open Go.RowKit
theorem step_begin{w:World}{tw t b j c:Nat}{m:Ms}{L:List Int}{LR:List Rs}{s:Gs}{R:Rt}{D:Nat→Prop}(h:PQ w t b m L LR s R D c)(who x st md:Int)(r:Rs)(hj:j<2)(hw:bits BinOp.and IntKind.i64 who 1=(j:Int))(k1:w.cell? ⟨tw,j,none⟩=some (ptr t))(k2:w.cell? ⟨tw,2+j,none⟩=some (ptr b))(htw:tw<w.heap.size)(hx:R64 x)(hxl:x∈L)(hr:r∈LR)(hro:r.ok)(hL:L.length<100000000000)(hLR:LR.length<2000000000000)(hc:c<200000000000)(hcL:c*L.length<2000000000000):Calls prog 10 #[ptr tw,.agg #[I 1,I who,I x,I st,I r.lv,.string r.lb,I r.id,I md]] w fun e w'=>e=.returned (.bool true)∧PN w w' t b L LR s D (c+1):=by
 have HCL:=hide hcL
 have HJ:=hide hj;have HW:=hide hw
 clear hcL
 have HG1:Hid (G w (w.alloc (.cells #[I 1,I who,I x,I st,I r.lv,.string r.lb,I r.id,I md] 35))):=(G.refl w).alloc _
 have HB1:Hid (Blk (w.alloc (.cells #[I 1,I who,I x,I st,I r.lv,.string r.lb,I r.id,I md] 35)) w.heap.size 35 [I 1,I who,I x,I st,I r.lv,.string r.lb,I r.id,I md]):=Blk.new w _ 35
 have hbx:=HB1.out.cell
 have q1:(w.alloc (.cells #[I 1,I who,I x,I st,I r.lv,.string r.lb,I r.id,I md] 35)).cell? ⟨tw,j,none⟩=some (ptr t):=(HG1.out.cell htw).trans k1
 have q2:(w.alloc (.cells #[I 1,I who,I x,I st,I r.lv,.string r.lb,I r.id,I md] 35)).cell? ⟨tw,2+j,none⟩=some (ptr b):=(HG1.out.cell htw).trans k2
 have hjI:(j:Int)<2:=by omega
 have hj0:(0:Int)≤(j:Int):=by omega
 have HH:=hide h;have HX:=hide hx;have HXL:=hide hxl;have HR:=hide hr;have HRO:=hide hro;have HL:=hide hL;have HLR:=hide hLR;have HC:=hide hc;have HTW:=hide htw;have HK1:=hide k1;have HK2:=hide k2
 clear h hx hxl hr hro hL hLR hc k1 k2 hj
 go_enter func10,ntmps10
 go_wp2_with fail
 go_quiet (fail)
 go_wp2_with fail
 go_quiet (fail)
 generalize hV:(((w.alloc (.cells #[I 1,I who,I x,I st,I r.lv,.string r.lb,I r.id,I md] 35))).drewN _).drewN _=V
 have HV:Hid (G w V):=by rw[←hV];exact(HG1.out.drewN _).drewN _
 have HBV:Hid (Blk V w.heap.size 35 [I 1,I who,I x,I st,I r.lv,.string r.lb,I r.id,I md]):=by rw[←hV];exact(HB1.out.drewN _).drewN _
 clear hV hbx q1 q2 HG1 HB1 hw htw
 obtain⟨bx,hbxe⟩:∃bx,bx=w.heap.size:=⟨_,rfl⟩
 have HBE:=hide hbxe
 rw[←hbxe] at HBV⊢
 clear hbxe
 have HBN:Hid (¬PB s D bx):=fun hh=>by have h1:=HH.out.dl hh;have h2:=HBE.out;omega
 have c0:=HBV.out.cell
 have HPV:=hide (HH.out.G HV.out)
 have HT1:Hid (V.cell? ⟨tw,j,none⟩=some (ptr t)):=(HV.out.cell HTW.out).trans HK1.out
 have HT2:Hid (V.cell? ⟨tw,2+j,none⟩=some (ptr b)):=(HV.out.cell HTW.out).trans HK2.out
 have HT3:Hid (tw<V.heap.size):=Nat.lt_of_lt_of_le HTW.out HV.out.size
 have KC:=hide (changes_begin HPV.out who x st md r HJ.out HW.out HT1.out HT2.out HT3.out HX.out HXL.out HR.out HRO.out HL.out HLR.out HC.out)
 go_wp2_with (first|(go_at_call 37;(with_reducible refine(KC.out).mono ?_);rintro e w3 ⟨rfl,g3⟩)|fail)
 go_ret
 exact⟨rfl,PN.back HV.out g3⟩
theorem step_mode{w:World}{tw t b j c:Nat}{m:Ms}{L:List Int}{LR:List Rs}{s:Gs}{R:Rt}{D:Nat→Prop}(h:PQ w t b m L LR s R D c)(who x st md:Int)(r:Rs)(hj:j<2)(hw:bits BinOp.and IntKind.i64 who 1=(j:Int))(k1:w.cell? ⟨tw,j,none⟩=some (ptr t))(k2:w.cell? ⟨tw,2+j,none⟩=some (ptr b))(htw:tw<w.heap.size)(hx:R64 x)(hxl:x∈L)(hr:r∈LR)(hro:r.ok)(hL:L.length<100000000000)(hLR:LR.length<2000000000000)(hc:c<200000000000)(hcL:c*L.length<2000000000000):Calls prog 10 #[ptr tw,.agg #[I 4,I who,I x,I st,I r.lv,.string r.lb,I r.id,I md]] w fun e w'=>e=.returned (.bool true)∧PN w w' t b L LR s D (c+1):=by
 have HCL:=hide hcL
 have HJ:=hide hj;have HW:=hide hw
 clear hcL
 have HG1:Hid (G w (w.alloc (.cells #[I 4,I who,I x,I st,I r.lv,.string r.lb,I r.id,I md] 35))):=(G.refl w).alloc _
 have HB1:Hid (Blk (w.alloc (.cells #[I 4,I who,I x,I st,I r.lv,.string r.lb,I r.id,I md] 35)) w.heap.size 35 [I 4,I who,I x,I st,I r.lv,.string r.lb,I r.id,I md]):=Blk.new w _ 35
 have hbx:=HB1.out.cell
 have q1:(w.alloc (.cells #[I 4,I who,I x,I st,I r.lv,.string r.lb,I r.id,I md] 35)).cell? ⟨tw,j,none⟩=some (ptr t):=(HG1.out.cell htw).trans k1
 have q2:(w.alloc (.cells #[I 4,I who,I x,I st,I r.lv,.string r.lb,I r.id,I md] 35)).cell? ⟨tw,2+j,none⟩=some (ptr b):=(HG1.out.cell htw).trans k2
 have hjI:(j:Int)<2:=by omega
 have hj0:(0:Int)≤(j:Int):=by omega
 have HH:=hide h;have HX:=hide hx;have HXL:=hide hxl;have HR:=hide hr;have HRO:=hide hro;have HL:=hide hL;have HLR:=hide hLR;have HC:=hide hc;have HTW:=hide htw;have HK1:=hide k1;have HK2:=hide k2
 clear h hx hxl hr hro hL hLR hc k1 k2 hj
 go_enter func10,ntmps10
 go_wp2_with fail
 go_quiet (fail)
 go_wp2_with fail
 go_quiet (fail)
 generalize hV:(((w.alloc (.cells #[I 4,I who,I x,I st,I r.lv,.string r.lb,I r.id,I md] 35))).drewN _).drewN _=V
 have HV:Hid (G w V):=by rw[←hV];exact(HG1.out.drewN _).drewN _
 have HBV:Hid (Blk V w.heap.size 35 [I 4,I who,I x,I st,I r.lv,.string r.lb,I r.id,I md]):=by rw[←hV];exact(HB1.out.drewN _).drewN _
 clear hV hbx q1 q2 HG1 HB1 hw htw
 obtain⟨bx,hbxe⟩:∃bx,bx=w.heap.size:=⟨_,rfl⟩
 have HBE:=hide hbxe
 rw[←hbxe] at HBV⊢
 clear hbxe
 have HBN:Hid (¬PB s D bx):=fun hh=>by have h1:=HH.out.dl hh;have h2:=HBE.out;omega
 have c0:=HBV.out.cell
 have HPV:=hide (HH.out.G HV.out)
 have HT1:Hid (V.cell? ⟨tw,j,none⟩=some (ptr t)):=(HV.out.cell HTW.out).trans HK1.out
 have HT2:Hid (V.cell? ⟨tw,2+j,none⟩=some (ptr b)):=(HV.out.cell HTW.out).trans HK2.out
 have HT3:Hid (tw<V.heap.size):=Nat.lt_of_lt_of_le HTW.out HV.out.size
 have KC:=hide (tells_mode HPV.out who x st md r HJ.out HW.out HT1.out HT2.out HT3.out HX.out HXL.out HR.out HRO.out HL.out HLR.out HC.out)
 go_wp2_with (first|(go_at_call 38;(with_reducible refine(KC.out).mono ?_);rintro e w3 ⟨rfl,g3⟩)|fail)
 go_ret
 exact⟨rfl,PN.of_G HH.out (HV.out.trans g3) (Nat.le_succ _)⟩
theorem step_waiting{w:World}{tw t b j c:Nat}{m:Ms}{L:List Int}{LR:List Rs}{s:Gs}{R:Rt}{D:Nat→Prop}(h:PQ w t b m L LR s R D c)(who x st md:Int)(r:Rs)(hj:j<2)(hw:bits BinOp.and IntKind.i64 who 1=(j:Int))(k1:w.cell? ⟨tw,j,none⟩=some (ptr t))(k2:w.cell? ⟨tw,2+j,none⟩=some (ptr b))(htw:tw<w.heap.size)(hx:R64 x)(hxl:x∈L)(hr:r∈LR)(hro:r.ok)(hL:L.length<100000000000)(hLR:LR.length<2000000000000)(hc:c<200000000000)(hcL:c*L.length<2000000000000):Calls prog 10 #[ptr tw,.agg #[I 5,I who,I x,I st,I r.lv,.string r.lb,I r.id,I md]] w fun e w'=>e=.returned (.bool true)∧PN w w' t b L LR s D (c+1):=by
 have HCL:=hide hcL
 have HJ:=hide hj;have HW:=hide hw
 clear hcL
 have HG1:Hid (G w (w.alloc (.cells #[I 5,I who,I x,I st,I r.lv,.string r.lb,I r.id,I md] 35))):=(G.refl w).alloc _
 have HB1:Hid (Blk (w.alloc (.cells #[I 5,I who,I x,I st,I r.lv,.string r.lb,I r.id,I md] 35)) w.heap.size 35 [I 5,I who,I x,I st,I r.lv,.string r.lb,I r.id,I md]):=Blk.new w _ 35
 have hbx:=HB1.out.cell
 have q1:(w.alloc (.cells #[I 5,I who,I x,I st,I r.lv,.string r.lb,I r.id,I md] 35)).cell? ⟨tw,j,none⟩=some (ptr t):=(HG1.out.cell htw).trans k1
 have q2:(w.alloc (.cells #[I 5,I who,I x,I st,I r.lv,.string r.lb,I r.id,I md] 35)).cell? ⟨tw,2+j,none⟩=some (ptr b):=(HG1.out.cell htw).trans k2
 have hjI:(j:Int)<2:=by omega
 have hj0:(0:Int)≤(j:Int):=by omega
 have HH:=hide h;have HX:=hide hx;have HXL:=hide hxl;have HR:=hide hr;have HRO:=hide hro;have HL:=hide hL;have HLR:=hide hLR;have HC:=hide hc;have HTW:=hide htw;have HK1:=hide k1;have HK2:=hide k2
 clear h hx hxl hr hro hL hLR hc k1 k2 hj
 go_enter func10,ntmps10
 go_wp2_with fail
 go_quiet (fail)
 go_wp2_with fail
 go_quiet (fail)
 generalize hV:(((w.alloc (.cells #[I 5,I who,I x,I st,I r.lv,.string r.lb,I r.id,I md] 35))).drewN _).drewN _=V
 have HV:Hid (G w V):=by rw[←hV];exact(HG1.out.drewN _).drewN _
 have HBV:Hid (Blk V w.heap.size 35 [I 5,I who,I x,I st,I r.lv,.string r.lb,I r.id,I md]):=by rw[←hV];exact(HB1.out.drewN _).drewN _
 clear hV hbx q1 q2 HG1 HB1 hw htw
 obtain⟨bx,hbxe⟩:∃bx,bx=w.heap.size:=⟨_,rfl⟩
 have HBE:=hide hbxe
 rw[←hbxe] at HBV⊢
 clear hbxe
 have HBN:Hid (¬PB s D bx):=fun hh=>by have h1:=HH.out.dl hh;have h2:=HBE.out;omega
 have c0:=HBV.out.cell
 have HPV:=hide (HH.out.G HV.out)
 have HT1:Hid (V.cell? ⟨tw,j,none⟩=some (ptr t)):=(HV.out.cell HTW.out).trans HK1.out
 have HT2:Hid (V.cell? ⟨tw,2+j,none⟩=some (ptr b)):=(HV.out.cell HTW.out).trans HK2.out
 have HT3:Hid (tw<V.heap.size):=Nat.lt_of_lt_of_le HTW.out HV.out.size
 have KC:=hide (tells_waiting HPV.out who x st md r HJ.out HW.out HT1.out HT2.out HT3.out HX.out HXL.out HR.out HRO.out HL.out HLR.out HC.out)
 go_wp2_with (first|(go_at_call 38;(with_reducible refine(KC.out).mono ?_);rintro e w3 ⟨rfl,g3⟩)|fail)
 go_ret
 exact⟨rfl,PN.of_G HH.out (HV.out.trans g3) (Nat.le_succ _)⟩
theorem step_wounders{w:World}{tw t b j c:Nat}{m:Ms}{L:List Int}{LR:List Rs}{s:Gs}{R:Rt}{D:Nat→Prop}(h:PQ w t b m L LR s R D c)(who x st md:Int)(r:Rs)(hj:j<2)(hw:bits BinOp.and IntKind.i64 who 1=(j:Int))(k1:w.cell? ⟨tw,j,none⟩=some (ptr t))(k2:w.cell? ⟨tw,2+j,none⟩=some (ptr b))(htw:tw<w.heap.size)(hx:R64 x)(hxl:x∈L)(hr:r∈LR)(hro:r.ok)(hL:L.length<100000000000)(hLR:LR.length<2000000000000)(hc:c<200000000000)(hcL:c*L.length<2000000000000):Calls prog 10 #[ptr tw,.agg #[I 6,I who,I x,I st,I r.lv,.string r.lb,I r.id,I md]] w fun e w'=>e=.returned (.bool true)∧PN w w' t b L LR s D (c+1):=by
 have HCL:=hide hcL
 have HJ:=hide hj;have HW:=hide hw
 clear hcL
 have HG1:Hid (G w (w.alloc (.cells #[I 6,I who,I x,I st,I r.lv,.string r.lb,I r.id,I md] 35))):=(G.refl w).alloc _
 have HB1:Hid (Blk (w.alloc (.cells #[I 6,I who,I x,I st,I r.lv,.string r.lb,I r.id,I md] 35)) w.heap.size 35 [I 6,I who,I x,I st,I r.lv,.string r.lb,I r.id,I md]):=Blk.new w _ 35
 have hbx:=HB1.out.cell
 have q1:(w.alloc (.cells #[I 6,I who,I x,I st,I r.lv,.string r.lb,I r.id,I md] 35)).cell? ⟨tw,j,none⟩=some (ptr t):=(HG1.out.cell htw).trans k1
 have q2:(w.alloc (.cells #[I 6,I who,I x,I st,I r.lv,.string r.lb,I r.id,I md] 35)).cell? ⟨tw,2+j,none⟩=some (ptr b):=(HG1.out.cell htw).trans k2
 have hjI:(j:Int)<2:=by omega
 have hj0:(0:Int)≤(j:Int):=by omega
 have HH:=hide h;have HX:=hide hx;have HXL:=hide hxl;have HR:=hide hr;have HRO:=hide hro;have HL:=hide hL;have HLR:=hide hLR;have HC:=hide hc;have HTW:=hide htw;have HK1:=hide k1;have HK2:=hide k2
 clear h hx hxl hr hro hL hLR hc k1 k2 hj
 go_enter func10,ntmps10
 go_wp2_with fail
 go_quiet (fail)
 go_wp2_with fail
 go_quiet (fail)
 generalize hV:(((w.alloc (.cells #[I 6,I who,I x,I st,I r.lv,.string r.lb,I r.id,I md] 35))).drewN _).drewN _=V
 have HV:Hid (G w V):=by rw[←hV];exact(HG1.out.drewN _).drewN _
 have HBV:Hid (Blk V w.heap.size 35 [I 6,I who,I x,I st,I r.lv,.string r.lb,I r.id,I md]):=by rw[←hV];exact(HB1.out.drewN _).drewN _
 clear hV hbx q1 q2 HG1 HB1 hw htw
 obtain⟨bx,hbxe⟩:∃bx,bx=w.heap.size:=⟨_,rfl⟩
 have HBE:=hide hbxe
 rw[←hbxe] at HBV⊢
 clear hbxe
 have HBN:Hid (¬PB s D bx):=fun hh=>by have h1:=HH.out.dl hh;have h2:=HBE.out;omega
 have c0:=HBV.out.cell
 have HPV:=hide (HH.out.G HV.out)
 have HT1:Hid (V.cell? ⟨tw,j,none⟩=some (ptr t)):=(HV.out.cell HTW.out).trans HK1.out
 have HT2:Hid (V.cell? ⟨tw,2+j,none⟩=some (ptr b)):=(HV.out.cell HTW.out).trans HK2.out
 have HT3:Hid (tw<V.heap.size):=Nat.lt_of_lt_of_le HTW.out HV.out.size
 have KC:=hide (tells_wounders HPV.out who x st md r HJ.out HW.out HT1.out HT2.out HT3.out HX.out HXL.out HR.out HRO.out HL.out HLR.out HC.out)
 go_wp2_with (first|(go_at_call 38;(with_reducible refine(KC.out).mono ?_);rintro e w3 ⟨rfl,g3⟩)|fail)
 go_ret
 exact⟨rfl,PN.of_G HH.out (HV.out.trans g3) (Nat.le_succ _)⟩
theorem step_wounded{w:World}{tw t b j c:Nat}{m:Ms}{L:List Int}{LR:List Rs}{s:Gs}{R:Rt}{D:Nat→Prop}(h:PQ w t b m L LR s R D c)(who x st md:Int)(r:Rs)(hj:j<2)(hw:bits BinOp.and IntKind.i64 who 1=(j:Int))(k1:w.cell? ⟨tw,j,none⟩=some (ptr t))(k2:w.cell? ⟨tw,2+j,none⟩=some (ptr b))(htw:tw<w.heap.size)(hx:R64 x)(hxl:x∈L)(hr:r∈LR)(hro:r.ok)(hL:L.length<100000000000)(hLR:LR.length<2000000000000)(hc:c<200000000000)(hcL:c*L.length<2000000000000):Calls prog 10 #[ptr tw,.agg #[I 7,I who,I x,I st,I r.lv,.string r.lb,I r.id,I md]] w fun e w'=>e=.returned (.bool true)∧PN w w' t b L LR s D (c+1):=by
 have HCL:=hide hcL
 have HJ:=hide hj;have HW:=hide hw
 clear hcL
 have HG1:Hid (G w (w.alloc (.cells #[I 7,I who,I x,I st,I r.lv,.string r.lb,I r.id,I md] 35))):=(G.refl w).alloc _
 have HB1:Hid (Blk (w.alloc (.cells #[I 7,I who,I x,I st,I r.lv,.string r.lb,I r.id,I md] 35)) w.heap.size 35 [I 7,I who,I x,I st,I r.lv,.string r.lb,I r.id,I md]):=Blk.new w _ 35
 have hbx:=HB1.out.cell
 have q1:(w.alloc (.cells #[I 7,I who,I x,I st,I r.lv,.string r.lb,I r.id,I md] 35)).cell? ⟨tw,j,none⟩=some (ptr t):=(HG1.out.cell htw).trans k1
 have q2:(w.alloc (.cells #[I 7,I who,I x,I st,I r.lv,.string r.lb,I r.id,I md] 35)).cell? ⟨tw,2+j,none⟩=some (ptr b):=(HG1.out.cell htw).trans k2
 have hjI:(j:Int)<2:=by omega
 have hj0:(0:Int)≤(j:Int):=by omega
 have HH:=hide h;have HX:=hide hx;have HXL:=hide hxl;have HR:=hide hr;have HRO:=hide hro;have HL:=hide hL;have HLR:=hide hLR;have HC:=hide hc;have HTW:=hide htw;have HK1:=hide k1;have HK2:=hide k2
 clear h hx hxl hr hro hL hLR hc k1 k2 hj
 go_enter func10,ntmps10
 go_wp2_with fail
 go_quiet (fail)
 go_wp2_with fail
 go_quiet (fail)
 generalize hV:(((w.alloc (.cells #[I 7,I who,I x,I st,I r.lv,.string r.lb,I r.id,I md] 35))).drewN _).drewN _=V
 have HV:Hid (G w V):=by rw[←hV];exact(HG1.out.drewN _).drewN _
 have HBV:Hid (Blk V w.heap.size 35 [I 7,I who,I x,I st,I r.lv,.string r.lb,I r.id,I md]):=by rw[←hV];exact(HB1.out.drewN _).drewN _
 clear hV hbx q1 q2 HG1 HB1 hw htw
 obtain⟨bx,hbxe⟩:∃bx,bx=w.heap.size:=⟨_,rfl⟩
 have HBE:=hide hbxe
 rw[←hbxe] at HBV⊢
 clear hbxe
 have HBN:Hid (¬PB s D bx):=fun hh=>by have h1:=HH.out.dl hh;have h2:=HBE.out;omega
 have c0:=HBV.out.cell
 have HPV:=hide (HH.out.G HV.out)
 have HT1:Hid (V.cell? ⟨tw,j,none⟩=some (ptr t)):=(HV.out.cell HTW.out).trans HK1.out
 have HT2:Hid (V.cell? ⟨tw,2+j,none⟩=some (ptr b)):=(HV.out.cell HTW.out).trans HK2.out
 have HT3:Hid (tw<V.heap.size):=Nat.lt_of_lt_of_le HTW.out HV.out.size
 have KC:=hide (tells_wounded HPV.out who x st md r HJ.out HW.out HT1.out HT2.out HT3.out HX.out HXL.out HR.out HRO.out HL.out HLR.out HC.out)
 go_wp2_with (first|(go_at_call 38;(with_reducible refine(KC.out).mono ?_);rintro e w3 ⟨rfl,g3⟩)|fail)
 go_ret
 exact⟨rfl,PN.of_G HH.out (HV.out.trans g3) (Nat.le_succ _)⟩
theorem step_holders{w:World}{tw t b j c:Nat}{m:Ms}{L:List Int}{LR:List Rs}{s:Gs}{R:Rt}{D:Nat→Prop}(h:PQ w t b m L LR s R D c)(who x st md:Int)(r:Rs)(hj:j<2)(hw:bits BinOp.and IntKind.i64 who 1=(j:Int))(k1:w.cell? ⟨tw,j,none⟩=some (ptr t))(k2:w.cell? ⟨tw,2+j,none⟩=some (ptr b))(htw:tw<w.heap.size)(hx:R64 x)(hxl:x∈L)(hr:r∈LR)(hro:r.ok)(hL:L.length<100000000000)(hLR:LR.length<2000000000000)(hc:c<200000000000)(hcL:c*L.length<2000000000000):Calls prog 10 #[ptr tw,.agg #[I 8,I who,I x,I st,I r.lv,.string r.lb,I r.id,I md]] w fun e w'=>e=.returned (.bool true)∧PN w w' t b L LR s D (c+1):=by
 have HCL:=hide hcL
 have HJ:=hide hj;have HW:=hide hw
 clear hcL
 have HG1:Hid (G w (w.alloc (.cells #[I 8,I who,I x,I st,I r.lv,.string r.lb,I r.id,I md] 35))):=(G.refl w).alloc _
 have HB1:Hid (Blk (w.alloc (.cells #[I 8,I who,I x,I st,I r.lv,.string r.lb,I r.id,I md] 35)) w.heap.size 35 [I 8,I who,I x,I st,I r.lv,.string r.lb,I r.id,I md]):=Blk.new w _ 35
 have hbx:=HB1.out.cell
 have q1:(w.alloc (.cells #[I 8,I who,I x,I st,I r.lv,.string r.lb,I r.id,I md] 35)).cell? ⟨tw,j,none⟩=some (ptr t):=(HG1.out.cell htw).trans k1
 have q2:(w.alloc (.cells #[I 8,I who,I x,I st,I r.lv,.string r.lb,I r.id,I md] 35)).cell? ⟨tw,2+j,none⟩=some (ptr b):=(HG1.out.cell htw).trans k2
 have hjI:(j:Int)<2:=by omega
 have hj0:(0:Int)≤(j:Int):=by omega
 have HH:=hide h;have HX:=hide hx;have HXL:=hide hxl;have HR:=hide hr;have HRO:=hide hro;have HL:=hide hL;have HLR:=hide hLR;have HC:=hide hc;have HTW:=hide htw;have HK1:=hide k1;have HK2:=hide k2
 clear h hx hxl hr hro hL hLR hc k1 k2 hj
 go_enter func10,ntmps10
 go_wp2_with fail
 go_quiet (fail)
 go_wp2_with fail
 go_quiet (fail)
 generalize hV:(((w.alloc (.cells #[I 8,I who,I x,I st,I r.lv,.string r.lb,I r.id,I md] 35))).drewN _).drewN _=V
 have HV:Hid (G w V):=by rw[←hV];exact(HG1.out.drewN _).drewN _
 have HBV:Hid (Blk V w.heap.size 35 [I 8,I who,I x,I st,I r.lv,.string r.lb,I r.id,I md]):=by rw[←hV];exact(HB1.out.drewN _).drewN _
 clear hV hbx q1 q2 HG1 HB1 hw htw
 obtain⟨bx,hbxe⟩:∃bx,bx=w.heap.size:=⟨_,rfl⟩
 have HBE:=hide hbxe
 rw[←hbxe] at HBV⊢
 clear hbxe
 have HBN:Hid (¬PB s D bx):=fun hh=>by have h1:=HH.out.dl hh;have h2:=HBE.out;omega
 have c0:=HBV.out.cell
 have HPV:=hide (HH.out.G HV.out)
 have HT1:Hid (V.cell? ⟨tw,j,none⟩=some (ptr t)):=(HV.out.cell HTW.out).trans HK1.out
 have HT2:Hid (V.cell? ⟨tw,2+j,none⟩=some (ptr b)):=(HV.out.cell HTW.out).trans HK2.out
 have HT3:Hid (tw<V.heap.size):=Nat.lt_of_lt_of_le HTW.out HV.out.size
 obtain⟨l,hll,K1,K2⟩:=holders_both HPV.out HC.out HL.out HRO.out
 have KA:=hide K1;have KB:=hide K2;have HIL:Hid (l.length<4100000000000):=Nat.lt_of_lt_of_le hll (by decide)
 clear K1 K2 hll
 go_wp2_with fail
 clear c0
 refine wp_region_noPanic ?_
 refine wp_region_held_drew (S:=(fun U=>∀o,U.cell? ⟨bx,o,none⟩=([I 8,I who,I x,I st,I r.lv,.string r.lb,I r.id,I md]:List Value)[o]?)) (by kernel_rfl) ((HBV.out.drew).cell) (fun hHeld=>?_)
 refine wpAnyH_take (i:=0) (v:=?_) rfl (by kernel_rfl) (by kernel_rfl) (by kernel_rfl) (fun _ _ _ h=>h) (Or.inl ⟨by rfl,?_⟩) hHeld ?_
 rotate_left 1
 ·(intro w hSw;have c0:=hSw;go_simp;try with_reducible rfl)
 try simp only[Act.put,zzA,zzB,zzD,zzE,zzF]
 refine wpAnyH_take (i:=1) (v:=?_) rfl (by kernel_rfl) (by kernel_rfl) (by kernel_rfl) (fun _ _ _ h=>h) (Or.inl ⟨by rfl,?_⟩) hHeld ?_
 rotate_left 1
 ·(intro w hSw;have c0:=hSw;go_simp;try with_reducible rfl)
 try simp only[Act.put,zzA,zzB,zzC,zzD,zzE,zzF]
 refine wpAnyH_take (i:=2) (v:=?_) rfl (by kernel_rfl) (by kernel_rfl) (by kernel_rfl) (fun _ _ _ h=>h) (Or.inl ⟨by rfl,?_⟩) hHeld ?_
 rotate_left 1
 ·(intro w hSw;have c0:=hSw;go_simp;try with_reducible rfl)
 try simp only[Act.put,zzA,zzB,zzC,zzD,zzE,zzF]
 refine wpAnyH_take (i:=4) (v:=?_) rfl (by kernel_rfl) (by kernel_rfl) (by kernel_rfl) (fun _ _ _ h=>h) (Or.inl ⟨by rfl,?_⟩) hHeld ?_
 rotate_left 1
 ·(intro w hSw;have c0:=hSw;go_simp;try with_reducible rfl)
 try simp only[Act.put,zzA,zzB,zzC,zzD,zzE,zzF]
 refine wpAnyH_take (i:=5) (v:=?_) rfl (by kernel_rfl) (by kernel_rfl) (by kernel_rfl) (fun _ _ _ h=>h) (Or.inl ⟨by rfl,?_⟩) hHeld ?_
 rotate_left 1
 ·(intro w hSw;have c0:=hSw;go_simp;try with_reducible rfl)
 try simp only[Act.put,zzA,zzB,zzC,zzD,zzE,zzF]
 refine wpAnyH_take (i:=6) (v:=?_) rfl (by kernel_rfl) (by kernel_rfl) (by kernel_rfl) (fun _ _ _ h=>h) (Or.inl ⟨by rfl,?_⟩) hHeld ?_
 rotate_left 1
 ·(intro w hSw;have c0:=hSw;go_simp;try with_reducible rfl)
 try simp only[Act.put,zzA,zzB,zzC,zzD,zzE,zzF]
 refine wpAnyH_ready (rs:=[3]) (by kernel_rfl) (by simp) (AllReadyH.cons rfl (fun K hK=>?_) AllReadyH.nil)
 clear hHeld
 go_simp
 (with_reducible refine(KA.out _ (G.refl V).drew).mono ?_)
 rintro e w3 ⟨u3,rfl,o3,g3⟩
 have HG3:Hid (G V w3):=(G.refl V).drew.trans g3
 have HO3:=hide o3
 clear g3 o3
 refine hK.out _ _ ((HBV.out.G HG3.out).cell) (fun hHeld=>?_)
 clear hK K
 try simp only[Act.put,zzA,zzB,zzC,zzD,zzE,zzF]
 refine wpAnyH_ready (rs:=[7]) (by kernel_rfl) (by simp) (AllReadyH.cons rfl (fun K hK=>?_) AllReadyH.nil)
 clear hHeld
 go_simp
 (with_reducible refine(KB.out _ HG3.out).mono ?_)
 rintro e w4 ⟨u4,rfl,o4,g4⟩
 have HG4:=hide g4;have HO4:=hide o4
 clear g4 o4
 refine hK.out _ _ ((HBV.out.G (HG3.out.trans HG4.out)).cell) (fun hHeld=>?_)
 clear hK K
 try simp only[Act.put,zzA,zzB,zzC,zzD,zzE,zzF]
 refine wpAnyH_ready (rs:=[8]) (by kernel_rfl) (by simp) (AllReadyH.cons rfl (fun K hK=>?_) AllReadyH.nil)
 clear hHeld
 go_simp
 refine(held_same l u3 u4 _ _ w4 HIL.out (own_G HO3.out HG4.out) HO4.out).mono ?_
 rintro e w5 ⟨rfl,g5⟩
 have HG5:=hide g5
 clear g5
 refine hK.out _ _ ((HBV.out.G (HG3.out.trans (HG4.out.trans HG5.out))).cell) (fun hHeld=>?_)
 clear hK K
 try simp only[Act.put,zzA,zzB,zzC,zzD,zzE,zzF]
 refine wpAnyH_take (i:=9) (v:=?_) rfl (by kernel_rfl) (by kernel_rfl) (by kernel_rfl) (fun _ _ _ h=>h) (Or.inl ⟨by rfl,?_⟩) hHeld ?_
 rotate_left 1
 ·(intro w hSw;(try dsimp only at hSw);go_simp;try with_reducible rfl)
 try simp only[Act.put,zzA,zzB,zzC,zzD,zzE,zzF]
 refine wpAnyH_done (by kernel_rfl) ?_ _
 refine NoPanic.normal ?_
 go_wp2_with fail
 go_ret
 exact⟨rfl,PN.of_G HH.out (HV.out.trans (HG3.out.trans (HG4.out.trans HG5.out))) (Nat.le_succ _)⟩
theorem step_queue{w:World}{tw t b j c:Nat}{m:Ms}{L:List Int}{LR:List Rs}{s:Gs}{R:Rt}{D:Nat→Prop}(h:PQ w t b m L LR s R D c)(who x st md:Int)(r:Rs)(hj:j<2)(hw:bits BinOp.and IntKind.i64 who 1=(j:Int))(k1:w.cell? ⟨tw,j,none⟩=some (ptr t))(k2:w.cell? ⟨tw,2+j,none⟩=some (ptr b))(htw:tw<w.heap.size)(hx:R64 x)(hxl:x∈L)(hr:r∈LR)(hro:r.ok)(hL:L.length<100000000000)(hLR:LR.length<2000000000000)(hc:c<200000000000)(hcL:c*L.length<2000000000000):Calls prog 10 #[ptr tw,.agg #[I 9,I who,I x,I st,I r.lv,.string r.lb,I r.id,I md]] w fun e w'=>e=.returned (.bool true)∧PN w w' t b L LR s D (c+1):=by
 have HCL:=hide hcL
 have HJ:=hide hj;have HW:=hide hw
 clear hcL
 have HG1:Hid (G w (w.alloc (.cells #[I 9,I who,I x,I st,I r.lv,.string r.lb,I r.id,I md] 35))):=(G.refl w).alloc _
 have HB1:Hid (Blk (w.alloc (.cells #[I 9,I who,I x,I st,I r.lv,.string r.lb,I r.id,I md] 35)) w.heap.size 35 [I 9,I who,I x,I st,I r.lv,.string r.lb,I r.id,I md]):=Blk.new w _ 35
 have hbx:=HB1.out.cell
 have q1:(w.alloc (.cells #[I 9,I who,I x,I st,I r.lv,.string r.lb,I r.id,I md] 35)).cell? ⟨tw,j,none⟩=some (ptr t):=(HG1.out.cell htw).trans k1
 have q2:(w.alloc (.cells #[I 9,I who,I x,I st,I r.lv,.string r.lb,I r.id,I md] 35)).cell? ⟨tw,2+j,none⟩=some (ptr b):=(HG1.out.cell htw).trans k2
 have hjI:(j:Int)<2:=by omega
 have hj0:(0:Int)≤(j:Int):=by omega
 have HH:=hide h;have HX:=hide hx;have HXL:=hide hxl;have HR:=hide hr;have HRO:=hide hro;have HL:=hide hL;have HLR:=hide hLR;have HC:=hide hc;have HTW:=hide htw;have HK1:=hide k1;have HK2:=hide k2
 clear h hx hxl hr hro hL hLR hc k1 k2 hj
 go_enter func10,ntmps10
 go_wp2_with fail
 go_quiet (fail)
 go_wp2_with fail
 go_quiet (fail)
 generalize hV:(((w.alloc (.cells #[I 9,I who,I x,I st,I r.lv,.string r.lb,I r.id,I md] 35))).drewN _).drewN _=V
 have HV:Hid (G w V):=by rw[←hV];exact(HG1.out.drewN _).drewN _
 have HBV:Hid (Blk V w.heap.size 35 [I 9,I who,I x,I st,I r.lv,.string r.lb,I r.id,I md]):=by rw[←hV];exact(HB1.out.drewN _).drewN _
 clear hV hbx q1 q2 HG1 HB1 hw htw
 obtain⟨bx,hbxe⟩:∃bx,bx=w.heap.size:=⟨_,rfl⟩
 have HBE:=hide hbxe
 rw[←hbxe] at HBV⊢
 clear hbxe
 have HBN:Hid (¬PB s D bx):=fun hh=>by have h1:=HH.out.dl hh;have h2:=HBE.out;omega
 have c0:=HBV.out.cell
 have HPV:=hide (HH.out.G HV.out)
 have HT1:Hid (V.cell? ⟨tw,j,none⟩=some (ptr t)):=(HV.out.cell HTW.out).trans HK1.out
 have HT2:Hid (V.cell? ⟨tw,2+j,none⟩=some (ptr b)):=(HV.out.cell HTW.out).trans HK2.out
 have HT3:Hid (tw<V.heap.size):=Nat.lt_of_lt_of_le HTW.out HV.out.size
 obtain⟨l,hll,K1,K2⟩:=queue_both HPV.out HC.out HL.out HRO.out
 have KA:=hide K1;have KB:=hide K2;have HIL:Hid (l.length<4100000000000):=Nat.lt_of_lt_of_le hll (by decide)
 clear K1 K2 hll
 go_wp2_with fail
 clear c0
 refine wp_region_noPanic ?_
 refine wp_region_held_drew (S:=(fun U=>∀o,U.cell? ⟨bx,o,none⟩=([I 9,I who,I x,I st,I r.lv,.string r.lb,I r.id,I md]:List Value)[o]?)) (by kernel_rfl) ((HBV.out.drew).cell) (fun hHeld=>?_)
 refine wpAnyH_take (i:=0) (v:=?_) rfl (by kernel_rfl) (by kernel_rfl) (by kernel_rfl) (fun _ _ _ h=>h) (Or.inl ⟨by rfl,?_⟩) hHeld ?_
 rotate_left 1
 ·(intro w hSw;have c0:=hSw;go_simp;try with_reducible rfl)
 try simp only[Act.put,zzA,zzB,zzD,zzE,zzF]
 refine wpAnyH_take (i:=1) (v:=?_) rfl (by kernel_rfl) (by kernel_rfl) (by kernel_rfl) (fun _ _ _ h=>h) (Or.inl ⟨by rfl,?_⟩) hHeld ?_
 rotate_left 1
 ·(intro w hSw;have c0:=hSw;go_simp;try with_reducible rfl)
 try simp only[Act.put,zzA,zzB,zzC,zzD,zzE,zzF]
 refine wpAnyH_take (i:=2) (v:=?_) rfl (by kernel_rfl) (by kernel_rfl) (by kernel_rfl) (fun _ _ _ h=>h) (Or.inl ⟨by rfl,?_⟩) hHeld ?_
 rotate_left 1
 ·(intro w hSw;have c0:=hSw;go_simp;try with_reducible rfl)
 try simp only[Act.put,zzA,zzB,zzC,zzD,zzE,zzF]
 refine wpAnyH_take (i:=4) (v:=?_) rfl (by kernel_rfl) (by kernel_rfl) (by kernel_rfl) (fun _ _ _ h=>h) (Or.inl ⟨by rfl,?_⟩) hHeld ?_
 rotate_left 1
 ·(intro w hSw;have c0:=hSw;go_simp;try with_reducible rfl)
 try simp only[Act.put,zzA,zzB,zzC,zzD,zzE,zzF]
 refine wpAnyH_take (i:=5) (v:=?_) rfl (by kernel_rfl) (by kernel_rfl) (by kernel_rfl) (fun _ _ _ h=>h) (Or.inl ⟨by rfl,?_⟩) hHeld ?_
 rotate_left 1
 ·(intro w hSw;have c0:=hSw;go_simp;try with_reducible rfl)
 try simp only[Act.put,zzA,zzB,zzC,zzD,zzE,zzF]
 refine wpAnyH_take (i:=6) (v:=?_) rfl (by kernel_rfl) (by kernel_rfl) (by kernel_rfl) (fun _ _ _ h=>h) (Or.inl ⟨by rfl,?_⟩) hHeld ?_
 rotate_left 1
 ·(intro w hSw;have c0:=hSw;go_simp;try with_reducible rfl)
 try simp only[Act.put,zzA,zzB,zzC,zzD,zzE,zzF]
 refine wpAnyH_ready (rs:=[3]) (by kernel_rfl) (by simp) (AllReadyH.cons rfl (fun K hK=>?_) AllReadyH.nil)
 clear hHeld
 go_simp
 (with_reducible refine(KA.out _ (G.refl V).drew).mono ?_)
 rintro e w3 ⟨u3,rfl,o3,g3⟩
 have HG3:Hid (G V w3):=(G.refl V).drew.trans g3
 have HO3:=hide o3
 clear g3 o3
 refine hK.out _ _ ((HBV.out.G HG3.out).cell) (fun hHeld=>?_)
 clear hK K
 try simp only[Act.put,zzA,zzB,zzC,zzD,zzE,zzF]
 refine wpAnyH_ready (rs:=[7]) (by kernel_rfl) (by simp) (AllReadyH.cons rfl (fun K hK=>?_) AllReadyH.nil)
 clear hHeld
 go_simp
 (with_reducible refine(KB.out _ HG3.out).mono ?_)
 rintro e w4 ⟨u4,rfl,o4,g4⟩
 have HG4:=hide g4;have HO4:=hide o4
 clear g4 o4
 refine hK.out _ _ ((HBV.out.G (HG3.out.trans HG4.out)).cell) (fun hHeld=>?_)
 clear hK K
 try simp only[Act.put,zzA,zzB,zzC,zzD,zzE,zzF]
 refine wpAnyH_ready (rs:=[8]) (by kernel_rfl) (by simp) (AllReadyH.cons rfl (fun K hK=>?_) AllReadyH.nil)
 clear hHeld
 go_simp
 refine(held_same l u3 u4 _ _ w4 HIL.out (own_G HO3.out HG4.out) HO4.out).mono ?_
 rintro e w5 ⟨rfl,g5⟩
 have HG5:=hide g5
 clear g5
 refine hK.out _ _ ((HBV.out.G (HG3.out.trans (HG4.out.trans HG5.out))).cell) (fun hHeld=>?_)
 clear hK K
 try simp only[Act.put,zzA,zzB,zzC,zzD,zzE,zzF]
 refine wpAnyH_take (i:=9) (v:=?_) rfl (by kernel_rfl) (by kernel_rfl) (by kernel_rfl) (fun _ _ _ h=>h) (Or.inl ⟨by rfl,?_⟩) hHeld ?_
 rotate_left 1
 ·(intro w hSw;(try dsimp only at hSw);go_simp;try with_reducible rfl)
 try simp only[Act.put,zzA,zzB,zzC,zzD,zzE,zzF]
 refine wpAnyH_done (by kernel_rfl) ?_ _
 refine NoPanic.normal ?_
 go_wp2_with fail
 go_ret
 exact⟨rfl,PN.of_G HH.out (HV.out.trans (HG3.out.trans (HG4.out.trans HG5.out))) (Nat.le_succ _)⟩
theorem step_live{w:World}{tw t b j c:Nat}{m:Ms}{L:List Int}{LR:List Rs}{s:Gs}{R:Rt}{D:Nat→Prop}(h:PQ w t b m L LR s R D c)(who x st md:Int)(r:Rs)(hj:j<2)(hw:bits BinOp.and IntKind.i64 who 1=(j:Int))(k1:w.cell? ⟨tw,j,none⟩=some (ptr t))(k2:w.cell? ⟨tw,2+j,none⟩=some (ptr b))(htw:tw<w.heap.size)(hx:R64 x)(hxl:x∈L)(hr:r∈LR)(hro:r.ok)(hL:L.length<100000000000)(hLR:LR.length<2000000000000)(hc:c<200000000000)(hcL:c*L.length<2000000000000):Calls prog 10 #[ptr tw,.agg #[I 10,I who,I x,I st,I r.lv,.string r.lb,I r.id,I md]] w fun e w'=>e=.returned (.bool true)∧PN w w' t b L LR s D (c+1):=by
 have HCL:=hide hcL
 have HJ:=hide hj;have HW:=hide hw
 clear hcL
 have HG1:Hid (G w (w.alloc (.cells #[I 10,I who,I x,I st,I r.lv,.string r.lb,I r.id,I md] 35))):=(G.refl w).alloc _
 have HB1:Hid (Blk (w.alloc (.cells #[I 10,I who,I x,I st,I r.lv,.string r.lb,I r.id,I md] 35)) w.heap.size 35 [I 10,I who,I x,I st,I r.lv,.string r.lb,I r.id,I md]):=Blk.new w _ 35
 have hbx:=HB1.out.cell
 have q1:(w.alloc (.cells #[I 10,I who,I x,I st,I r.lv,.string r.lb,I r.id,I md] 35)).cell? ⟨tw,j,none⟩=some (ptr t):=(HG1.out.cell htw).trans k1
 have q2:(w.alloc (.cells #[I 10,I who,I x,I st,I r.lv,.string r.lb,I r.id,I md] 35)).cell? ⟨tw,2+j,none⟩=some (ptr b):=(HG1.out.cell htw).trans k2
 have hjI:(j:Int)<2:=by omega
 have hj0:(0:Int)≤(j:Int):=by omega
 have HH:=hide h;have HX:=hide hx;have HXL:=hide hxl;have HR:=hide hr;have HRO:=hide hro;have HL:=hide hL;have HLR:=hide hLR;have HC:=hide hc;have HTW:=hide htw;have HK1:=hide k1;have HK2:=hide k2
 clear h hx hxl hr hro hL hLR hc k1 k2 hj
 go_enter func10,ntmps10
 go_wp2_with fail
 go_quiet (fail)
 go_wp2_with fail
 go_quiet (fail)
 generalize hV:(((w.alloc (.cells #[I 10,I who,I x,I st,I r.lv,.string r.lb,I r.id,I md] 35))).drewN _).drewN _=V
 have HV:Hid (G w V):=by rw[←hV];exact(HG1.out.drewN _).drewN _
 have HBV:Hid (Blk V w.heap.size 35 [I 10,I who,I x,I st,I r.lv,.string r.lb,I r.id,I md]):=by rw[←hV];exact(HB1.out.drewN _).drewN _
 clear hV hbx q1 q2 HG1 HB1 hw htw
 obtain⟨bx,hbxe⟩:∃bx,bx=w.heap.size:=⟨_,rfl⟩
 have HBE:=hide hbxe
 rw[←hbxe] at HBV⊢
 clear hbxe
 have HBN:Hid (¬PB s D bx):=fun hh=>by have h1:=HH.out.dl hh;have h2:=HBE.out;omega
 have c0:=HBV.out.cell
 have HPV:=hide (HH.out.G HV.out)
 have HT1:Hid (V.cell? ⟨tw,j,none⟩=some (ptr t)):=(HV.out.cell HTW.out).trans HK1.out
 have HT2:Hid (V.cell? ⟨tw,2+j,none⟩=some (ptr b)):=(HV.out.cell HTW.out).trans HK2.out
 have HT3:Hid (tw<V.heap.size):=Nat.lt_of_lt_of_le HTW.out HV.out.size
 obtain⟨l,hll,K1,K2⟩:=live_both HPV.out HC.out
 have KA:=hide K1;have KB:=hide K2;have HIL:Hid (l.length<4100000000000):=Nat.lt_of_lt_of_le hll (by decide)
 clear K1 K2 hll
 have KA2:=hide (KA.out V (G.refl _))
 go_wp2_with (first|(go_at_call 45;(with_reducible refine(KA2.out).mono ?_);rintro e w3 ⟨u3,rfl,o3,g3⟩;refine Hid.out ?_)|fail)
 unfold Hid
 have KD:=hide (KB.out w3 g3)
 have HG3:=hide g3;have HO3:=hide o3
 clear c0 g3 o3 KA KB KA2
 go_wp2_with (first|(go_at_call 46;(with_reducible refine(KD.out).mono ?_);rintro e w4 ⟨u4,rfl,o4,g4⟩;refine Hid.out ?_)|fail)
 unfold Hid
 have KI:=hide (ints_same l u3 u4 _ _ w4 HIL.out (own_G HO3.out g4) o4)
 have HG4:=hide g4
 clear g4 o4 KD
 go_wp2_with (first|(go_at_call 44;(with_reducible refine(KI.out).mono ?_);rintro e w5 ⟨rfl,g5⟩)|fail)
 go_ret
 exact⟨rfl,PN.of_G HH.out (HV.out.trans (HG3.out.trans (HG4.out.trans g5))) (Nat.le_succ _)⟩
theorem step_waits{w:World}{tw t b j c:Nat}{m:Ms}{L:List Int}{LR:List Rs}{s:Gs}{R:Rt}{D:Nat→Prop}(h:PQ w t b m L LR s R D c)(who x st md:Int)(r:Rs)(hj:j<2)(hw:bits BinOp.and IntKind.i64 who 1=(j:Int))(k1:w.cell? ⟨tw,j,none⟩=some (ptr t))(k2:w.cell? ⟨tw,2+j,none⟩=some (ptr b))(htw:tw<w.heap.size)(hx:R64 x)(hxl:x∈L)(hr:r∈LR)(hro:r.ok)(hL:L.length<100000000000)(hLR:LR.length<2000000000000)(hc:c<200000000000)(hcL:c*L.length<2000000000000):Calls prog 10 #[ptr tw,.agg #[I 11,I who,I x,I st,I r.lv,.string r.lb,I r.id,I md]] w fun e w'=>e=.returned (.bool true)∧PN w w' t b L LR s D (c+1):=by
 have HCL:=hide hcL
 have HJ:=hide hj;have HW:=hide hw
 clear hcL
 have HG1:Hid (G w (w.alloc (.cells #[I 11,I who,I x,I st,I r.lv,.string r.lb,I r.id,I md] 35))):=(G.refl w).alloc _
 have HB1:Hid (Blk (w.alloc (.cells #[I 11,I who,I x,I st,I r.lv,.string r.lb,I r.id,I md] 35)) w.heap.size 35 [I 11,I who,I x,I st,I r.lv,.string r.lb,I r.id,I md]):=Blk.new w _ 35
 have hbx:=HB1.out.cell
 have q1:(w.alloc (.cells #[I 11,I who,I x,I st,I r.lv,.string r.lb,I r.id,I md] 35)).cell? ⟨tw,j,none⟩=some (ptr t):=(HG1.out.cell htw).trans k1
 have q2:(w.alloc (.cells #[I 11,I who,I x,I st,I r.lv,.string r.lb,I r.id,I md] 35)).cell? ⟨tw,2+j,none⟩=some (ptr b):=(HG1.out.cell htw).trans k2
 have hjI:(j:Int)<2:=by omega
 have hj0:(0:Int)≤(j:Int):=by omega
 have HH:=hide h;have HX:=hide hx;have HXL:=hide hxl;have HR:=hide hr;have HRO:=hide hro;have HL:=hide hL;have HLR:=hide hLR;have HC:=hide hc;have HTW:=hide htw;have HK1:=hide k1;have HK2:=hide k2
 clear h hx hxl hr hro hL hLR hc k1 k2 hj
 go_enter func10,ntmps10
 go_wp2_with fail
 go_quiet (fail)
 go_wp2_with fail
 go_quiet (fail)
 generalize hV:(((w.alloc (.cells #[I 11,I who,I x,I st,I r.lv,.string r.lb,I r.id,I md] 35))).drewN _).drewN _=V
 have HV:Hid (G w V):=by rw[←hV];exact(HG1.out.drewN _).drewN _
 have HBV:Hid (Blk V w.heap.size 35 [I 11,I who,I x,I st,I r.lv,.string r.lb,I r.id,I md]):=by rw[←hV];exact(HB1.out.drewN _).drewN _
 clear hV hbx q1 q2 HG1 HB1 hw htw
 obtain⟨bx,hbxe⟩:∃bx,bx=w.heap.size:=⟨_,rfl⟩
 have HBE:=hide hbxe
 rw[←hbxe] at HBV⊢
 clear hbxe
 have HBN:Hid (¬PB s D bx):=fun hh=>by have h1:=HH.out.dl hh;have h2:=HBE.out;omega
 have c0:=HBV.out.cell
 have HPV:=hide (HH.out.G HV.out)
 have HT1:Hid (V.cell? ⟨tw,j,none⟩=some (ptr t)):=(HV.out.cell HTW.out).trans HK1.out
 have HT2:Hid (V.cell? ⟨tw,2+j,none⟩=some (ptr b)):=(HV.out.cell HTW.out).trans HK2.out
 have HT3:Hid (tw<V.heap.size):=Nat.lt_of_lt_of_le HTW.out HV.out.size
 obtain⟨l,hll,K1,K2⟩:=waits_both HPV.out HCL.out HC.out HL.out
 have KA:=hide K1;have KB:=hide K2;have HIL:Hid (l.length<4100000000000):=Nat.lt_of_lt_of_le hll (by decide)
 clear K1 K2 hll
 have KA2:=hide (KA.out V (G.refl _))
 go_wp2_with (first|(go_at_call 48;(with_reducible refine(KA2.out).mono ?_);rintro e w3 ⟨u3,rfl,o3,g3⟩;refine Hid.out ?_)|fail)
 unfold Hid
 have KD:=hide (KB.out w3 g3)
 have HG3:=hide g3;have HO3:=hide o3
 clear c0 g3 o3 KA KB KA2
 go_wp2_with (first|(go_at_call 49;(with_reducible refine(KD.out).mono ?_);rintro e w4 ⟨u4,rfl,o4,g4⟩;refine Hid.out ?_)|fail)
 unfold Hid
 have KI:=hide (waits_same l u3 u4 _ _ w4 HIL.out (own_G HO3.out g4) o4)
 have HG4:=hide g4
 clear g4 o4 KD
 go_wp2_with (first|(go_at_call 47;(with_reducible refine(KI.out).mono ?_);rintro e w5 ⟨rfl,g5⟩)|fail)
 go_ret
 exact⟨rfl,PN.of_G HH.out (HV.out.trans (HG3.out.trans (HG4.out.trans g5))) (Nat.le_succ _)⟩
theorem step_none{w:World}{tw t b j c:Nat}{m:Ms}{L:List Int}{LR:List Rs}{s:Gs}{R:Rt}{D:Nat→Prop}(h:PQ w t b m L LR s R D c)(kd who x st md:Int)(r:Rs)(hj:j<2)(hw:bits BinOp.and IntKind.i64 who 1=(j:Int))(k1:w.cell? ⟨tw,j,none⟩=some (ptr t))(k2:w.cell? ⟨tw,2+j,none⟩=some (ptr b))(htw:tw<w.heap.size)(hx:R64 x)(hxl:x∈L)(hr:r∈LR)(hro:r.ok)(hL:L.length<100000000000)(hLR:LR.length<2000000000000)(hc:c<200000000000)(_hcL:c*L.length<2000000000000)(h1:¬kd=1)(h2:¬kd=2)(h3:¬kd=3)(h4:¬kd=4)(h5:¬kd=5)(h6:¬kd=6)(h7:¬kd=7)(h8:¬kd=8)(h9:¬kd=9)(h10:¬kd=10)(h11:¬kd=11):Calls prog 10 #[ptr tw,.agg #[I kd,I who,I x,I st,I r.lv,.string r.lb,I r.id,I md]] w fun e w'=>e=.returned (.bool true)∧PN w w' t b L LR s D (c+1):=by
 clear _hcL
 have HG1:Hid (G w (w.alloc (.cells #[I kd,I who,I x,I st,I r.lv,.string r.lb,I r.id,I md] 35))):=(G.refl w).alloc _
 have HB1:Hid (Blk (w.alloc (.cells #[I kd,I who,I x,I st,I r.lv,.string r.lb,I r.id,I md] 35)) w.heap.size 35 [I kd,I who,I x,I st,I r.lv,.string r.lb,I r.id,I md]):=Blk.new w _ 35
 have hbx:=HB1.out.cell
 have q1:(w.alloc (.cells #[I kd,I who,I x,I st,I r.lv,.string r.lb,I r.id,I md] 35)).cell? ⟨tw,j,none⟩=some (ptr t):=(HG1.out.cell htw).trans k1
 have q2:(w.alloc (.cells #[I kd,I who,I x,I st,I r.lv,.string r.lb,I r.id,I md] 35)).cell? ⟨tw,2+j,none⟩=some (ptr b):=(HG1.out.cell htw).trans k2
 have hjI:(j:Int)<2:=by omega
 have hj0:(0:Int)≤(j:Int):=by omega
 have HH:=hide h;have HX:=hide hx;have HXL:=hide hxl;have HR:=hide hr;have HRO:=hide hro;have HL:=hide hL;have HLR:=hide hLR;have HC:=hide hc;have HTW:=hide htw;have HK1:=hide k1;have HK2:=hide k2
 clear h hx hxl hr hro hL hLR hc k1 k2 hj
 go_enter func10,ntmps10
 go_wp2_with fail
 go_quiet (fail)
 go_wp2_with fail
 go_quiet (fail)
 generalize hV:(((w.alloc (.cells #[I kd,I who,I x,I st,I r.lv,.string r.lb,I r.id,I md] 35))).drewN _).drewN _=V
 have HV:Hid (G w V):=by rw[←hV];exact(HG1.out.drewN _).drewN _
 have HBV:Hid (Blk V w.heap.size 35 [I kd,I who,I x,I st,I r.lv,.string r.lb,I r.id,I md]):=by rw[←hV];exact(HB1.out.drewN _).drewN _
 clear hV hbx q1 q2 HG1 HB1 hw htw
 obtain⟨bx,hbxe⟩:∃bx,bx=w.heap.size:=⟨_,rfl⟩
 have HBE:=hide hbxe
 rw[←hbxe] at HBV⊢
 clear hbxe
 have HBN:Hid (¬PB s D bx):=fun hh=>by have h1:=HH.out.dl hh;have h2:=HBE.out;omega
 have c0:=HBV.out.cell
 go_wp2_with fail
 go_ret
 exact⟨rfl,PN.of_G HH.out HV.out (Nat.le_succ _)⟩
end
section
open Go.RowKit
theorem and1(who:Int):∃s:Nat,s<2∧bits BinOp.and IntKind.i64 who 1=(s:Int):=by
 refine⟨(BitVec.ofInt 64 who).toNat%2,Nat.mod_lt _ (by decide),?_⟩
 have h:((BitVec.ofInt 64 who) &&& (BitVec.ofInt 64 1)).toNat=(BitVec.ofInt 64 who).toNat%2:=by
  rw[BitVec.toNat_and]
  exact Nat.and_one_is_mod _
 show IntKind.i64.wrap ((((BitVec.ofInt 64 who) &&& (BitVec.ofInt 64 1)).toNat:Nat):Int)=_
 rw[h,IntKind.wrap_i64]
 have:=Nat.mod_lt (BitVec.ofInt 64 who).toNat (show 0<2 by decide)
 omega
structure TWs(W0 w:World)(tw:Nat)(L:List Int)(LR:List Rs)(c:Nat)(t b:Nat→Nat)(m:Nat→Ms)(s:Nat→Gs)(R:Nat→Rt)(D:Nat→Nat→Prop):Prop where
 blk:Blk w tw 41 [ptr (t 0),ptr (t 1),ptr (b 0),ptr (b 1)]
 pq:∀j,j<2→PQ w (t j) (b j) (m j) L LR (s j) (R j) (D j) c
 ap:∀j i k,j<2→i<2→j≠i→PB (s j) (D j) k→¬PB (s i) (D i) k
 tn:∀j,j<2→¬PB (s j) (D j) tw
 nw:∀j,j<2→∀k,PB (s j) (D j) k→W0.heap.size≤k
 tl:W0.heap.size≤tw
 gg:G W0 w
def TW(W0 w:World)(tw:Nat)(L:List Int)(LR:List Rs)(c:Nat):Prop:=∃t b m s R D,TWs W0 w tw L LR c t b m s R D
theorem TW.G{W0 w w':World}{tw c:Nat}{L:List Int}{LR:List Rs}(h:TW W0 w tw L LR c)(g:Go.Proofs.YtadfaiciolfgjaaGreatDoor.G w w'):TW W0 w' tw L LR c:=by
 obtain⟨t,b,m,s,R,D,h⟩:=h
 exact⟨t,b,m,s,R,D,h.blk.G g,fun j hj=>(h.pq j hj).G g,h.ap,h.tn,h.nw,h.tl,h.gg.trans g⟩
theorem PN.tw{W0 w w':World}{tw c j:Nat}{L:List Int}{LR:List Rs}{t b:Nat→Nat}{m:Nat→Ms}{s:Nat→Gs}{R:Nat→Rt}{D:Nat→Nat→Prop}(h:TWs W0 w tw L LR c t b m s R D)(hj:j<2)(hn:PN w w' (t j) (b j) L LR (s j) (D j) (c+1)):TW W0 w' tw L LR (c+1):=by
 obtain⟨m',s',R',D',hq,hc,hn⟩:=hn
 have htw:tw<w.heap.size:=cell_lt' (v:=ptr (t 0)) (h.blk.cell 0)
 have hsz:=h.gg.size
 refine⟨t,b,fun i=>if i=j then m' else m i,fun i=>if i=j then s' else s i,fun i=>if i=j then R' else R i,fun i=>if i=j then D' else D i,h.blk.chg hc (h.tn j hj),fun i hi=>?_,fun i1 i2 k h1 h2 hne=>?_,fun i hi=>?_,fun i hi k=>?_,h.tl,h.gg.of_chg hc (h.nw j hj)⟩
 ·by_cases e:i=j
  ·subst e;simp only[if_pos];exact hq
  ·simp only[if_neg e]
   have hp:=h.pq j hj
   exact((h.pq i hi).far hc (fun k hk hh=>h.ap i j k hi hj e hk hh) ⟨fun hh=>hh.elim (fun h5=>h5 hp.gt.gl.1) hp.dg.1,fun hh=>hh.elim (fun h5=>h5 hp.gt.gl.2) hp.dg.2⟩).more (Nat.le_succ _)
 ·by_cases e1:i1=j
  ·have e2:¬i2=j:=fun e=>hne (e1.trans e.symm)
   simp only[if_pos e1,if_neg e2]
   intro hk hh
   rcases hn k hk with h5|h5
   ·exact h.ap i2 j k h2 hj e2 hh h5
   ·have:=(h.pq i2 h2).dl hh;omega
  ·simp only[if_neg e1]
   by_cases e2:i2=j
   ·simp only[if_pos e2]
    intro hh hk
    rcases hn k hk with h5|h5
    ·exact h.ap i1 j k h1 hj e1 hh h5
    ·have:=(h.pq i1 h1).dl hh;omega
   ·simp only[if_neg e2]
    exact h.ap i1 i2 k h1 h2 hne
 ·by_cases e:i=j
  ·simp only[if_pos e]
   intro hk
   rcases hn _ hk with h5|h5
   ·exact h.tn j hj h5
   ·omega
  ·simp only[if_neg e];exact h.tn i hi
 ·by_cases e:i=j
  ·simp only[if_pos e]
   intro hk
   rcases hn _ hk with h5|h5
   ·exact h.nw j hj k h5
   ·omega
  ·simp only[if_neg e];exact h.nw i hi k
end
end Go.Proofs.YtadfaiciolfgjaaGreatDoor
