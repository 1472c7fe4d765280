import Derived.LoopN
import Derived.Test.YtoefbpldmlebdaaGreatDoorLkR1
namespace Go.Proofs.YtoefbpldmlebdaaGreatDoor
open Go.Proofs.Tryz
set_option maxHeartbeats 1000000
set_option maxRecDepth 100000
section
open Go.RowKit
theorem rjoins_0(b:Int)(hb:jm b)(w:World):Calls prog 85 #[I 0,I b] w fun e w'=>e=.returned (I (joinI 0 b))∧w'=w:=by
 have KA:=hide (rmode_any 0 w)
 have KB:=hide (rmode_any b w)
 have ma:modeB 0=false:=by decide
 rw[ma] at KA
 have h:b=0∨b=1∨b=2∨b=3∨b=4∨b=5:=by rcases hb with h|h<;>omega
 clear hb
 have c0:=hide (cov_0 w)
 have c1:=hide (cov_1 w)
 have c2:=hide (cov_2 w)
 have c3:=hide (cov_3 w)
 have c4:=hide (cov_4 w)
 have c5:=hide (cov_5 w)
 rcases h with rfl|rfl|rfl|rfl|rfl|rfl
 ·have mb:modeB 0=false:=by decide
  rw[mb] at KB
  go_enter func85,ntmps85
  go_wp2_with (first|(go_at_call 84;with_reducible refine(KA.out).mono ?_;rintro e w' ⟨rfl,rfl⟩)|(go_at_call 84;with_reducible refine(KB.out).mono ?_;rintro e w' ⟨rfl,rfl⟩)|(go_at_call 109;with_reducible refine(c0.out).mono ?_;rintro e w' ⟨rfl,rfl⟩)|(go_at_call 109;with_reducible refine(c1.out).mono ?_;rintro e w' ⟨rfl,rfl⟩)|(go_at_call 109;with_reducible refine(c2.out).mono ?_;rintro e w' ⟨rfl,rfl⟩)|(go_at_call 109;with_reducible refine(c3.out).mono ?_;rintro e w' ⟨rfl,rfl⟩)|(go_at_call 109;with_reducible refine(c4.out).mono ?_;rintro e w' ⟨rfl,rfl⟩)|(go_at_call 109;with_reducible refine(c5.out).mono ?_;rintro e w' ⟨rfl,rfl⟩)|fail)
  go_ret
  exact⟨rfl,rfl⟩
 ·have mb:modeB 1=true:=by decide
  rw[mb] at KB
  go_enter func85,ntmps85
  go_wp2_with (first|(go_at_call 84;with_reducible refine(KA.out).mono ?_;rintro e w' ⟨rfl,rfl⟩)|(go_at_call 84;with_reducible refine(KB.out).mono ?_;rintro e w' ⟨rfl,rfl⟩)|(go_at_call 109;with_reducible refine(c0.out).mono ?_;rintro e w' ⟨rfl,rfl⟩)|(go_at_call 109;with_reducible refine(c1.out).mono ?_;rintro e w' ⟨rfl,rfl⟩)|(go_at_call 109;with_reducible refine(c2.out).mono ?_;rintro e w' ⟨rfl,rfl⟩)|(go_at_call 109;with_reducible refine(c3.out).mono ?_;rintro e w' ⟨rfl,rfl⟩)|(go_at_call 109;with_reducible refine(c4.out).mono ?_;rintro e w' ⟨rfl,rfl⟩)|(go_at_call 109;with_reducible refine(c5.out).mono ?_;rintro e w' ⟨rfl,rfl⟩)|fail)
  refine wp_loop_rounds 1 ?_
  rw[rounds_succ]
  go_wp2_with (first|(go_at_call 84;with_reducible refine(KA.out).mono ?_;rintro e w' ⟨rfl,rfl⟩)|(go_at_call 84;with_reducible refine(KB.out).mono ?_;rintro e w' ⟨rfl,rfl⟩)|(go_at_call 109;with_reducible refine(c0.out).mono ?_;rintro e w' ⟨rfl,rfl⟩)|(go_at_call 109;with_reducible refine(c1.out).mono ?_;rintro e w' ⟨rfl,rfl⟩)|(go_at_call 109;with_reducible refine(c2.out).mono ?_;rintro e w' ⟨rfl,rfl⟩)|(go_at_call 109;with_reducible refine(c3.out).mono ?_;rintro e w' ⟨rfl,rfl⟩)|(go_at_call 109;with_reducible refine(c4.out).mono ?_;rintro e w' ⟨rfl,rfl⟩)|(go_at_call 109;with_reducible refine(c5.out).mono ?_;rintro e w' ⟨rfl,rfl⟩)|fail)
  go_ret
  exact⟨rfl,rfl⟩
 ·have mb:modeB 2=true:=by decide
  rw[mb] at KB
  go_enter func85,ntmps85
  go_wp2_with (first|(go_at_call 84;with_reducible refine(KA.out).mono ?_;rintro e w' ⟨rfl,rfl⟩)|(go_at_call 84;with_reducible refine(KB.out).mono ?_;rintro e w' ⟨rfl,rfl⟩)|(go_at_call 109;with_reducible refine(c0.out).mono ?_;rintro e w' ⟨rfl,rfl⟩)|(go_at_call 109;with_reducible refine(c1.out).mono ?_;rintro e w' ⟨rfl,rfl⟩)|(go_at_call 109;with_reducible refine(c2.out).mono ?_;rintro e w' ⟨rfl,rfl⟩)|(go_at_call 109;with_reducible refine(c3.out).mono ?_;rintro e w' ⟨rfl,rfl⟩)|(go_at_call 109;with_reducible refine(c4.out).mono ?_;rintro e w' ⟨rfl,rfl⟩)|(go_at_call 109;with_reducible refine(c5.out).mono ?_;rintro e w' ⟨rfl,rfl⟩)|fail)
  refine wp_loop_rounds 2 ?_
  rw[rounds_succ]
  go_wp2_with (first|(go_at_call 84;with_reducible refine(KA.out).mono ?_;rintro e w' ⟨rfl,rfl⟩)|(go_at_call 84;with_reducible refine(KB.out).mono ?_;rintro e w' ⟨rfl,rfl⟩)|(go_at_call 109;with_reducible refine(c0.out).mono ?_;rintro e w' ⟨rfl,rfl⟩)|(go_at_call 109;with_reducible refine(c1.out).mono ?_;rintro e w' ⟨rfl,rfl⟩)|(go_at_call 109;with_reducible refine(c2.out).mono ?_;rintro e w' ⟨rfl,rfl⟩)|(go_at_call 109;with_reducible refine(c3.out).mono ?_;rintro e w' ⟨rfl,rfl⟩)|(go_at_call 109;with_reducible refine(c4.out).mono ?_;rintro e w' ⟨rfl,rfl⟩)|(go_at_call 109;with_reducible refine(c5.out).mono ?_;rintro e w' ⟨rfl,rfl⟩)|fail)
  rw[rounds_succ]
  go_wp2_with (first|(go_at_call 84;with_reducible refine(KA.out).mono ?_;rintro e w' ⟨rfl,rfl⟩)|(go_at_call 84;with_reducible refine(KB.out).mono ?_;rintro e w' ⟨rfl,rfl⟩)|(go_at_call 109;with_reducible refine(c0.out).mono ?_;rintro e w' ⟨rfl,rfl⟩)|(go_at_call 109;with_reducible refine(c1.out).mono ?_;rintro e w' ⟨rfl,rfl⟩)|(go_at_call 109;with_reducible refine(c2.out).mono ?_;rintro e w' ⟨rfl,rfl⟩)|(go_at_call 109;with_reducible refine(c3.out).mono ?_;rintro e w' ⟨rfl,rfl⟩)|(go_at_call 109;with_reducible refine(c4.out).mono ?_;rintro e w' ⟨rfl,rfl⟩)|(go_at_call 109;with_reducible refine(c5.out).mono ?_;rintro e w' ⟨rfl,rfl⟩)|fail)
  go_ret
  exact⟨rfl,rfl⟩
 ·have mb:modeB 3=true:=by decide
  rw[mb] at KB
  go_enter func85,ntmps85
  go_wp2_with (first|(go_at_call 84;with_reducible refine(KA.out).mono ?_;rintro e w' ⟨rfl,rfl⟩)|(go_at_call 84;with_reducible refine(KB.out).mono ?_;rintro e w' ⟨rfl,rfl⟩)|(go_at_call 109;with_reducible refine(c0.out).mono ?_;rintro e w' ⟨rfl,rfl⟩)|(go_at_call 109;with_reducible refine(c1.out).mono ?_;rintro e w' ⟨rfl,rfl⟩)|(go_at_call 109;with_reducible refine(c2.out).mono ?_;rintro e w' ⟨rfl,rfl⟩)|(go_at_call 109;with_reducible refine(c3.out).mono ?_;rintro e w' ⟨rfl,rfl⟩)|(go_at_call 109;with_reducible refine(c4.out).mono ?_;rintro e w' ⟨rfl,rfl⟩)|(go_at_call 109;with_reducible refine(c5.out).mono ?_;rintro e w' ⟨rfl,rfl⟩)|fail)
  refine wp_loop_rounds 3 ?_
  rw[rounds_succ]
  go_wp2_with (first|(go_at_call 84;with_reducible refine(KA.out).mono ?_;rintro e w' ⟨rfl,rfl⟩)|(go_at_call 84;with_reducible refine(KB.out).mono ?_;rintro e w' ⟨rfl,rfl⟩)|(go_at_call 109;with_reducible refine(c0.out).mono ?_;rintro e w' ⟨rfl,rfl⟩)|(go_at_call 109;with_reducible refine(c1.out).mono ?_;rintro e w' ⟨rfl,rfl⟩)|(go_at_call 109;with_reducible refine(c2.out).mono ?_;rintro e w' ⟨rfl,rfl⟩)|(go_at_call 109;with_reducible refine(c3.out).mono ?_;rintro e w' ⟨rfl,rfl⟩)|(go_at_call 109;with_reducible refine(c4.out).mono ?_;rintro e w' ⟨rfl,rfl⟩)|(go_at_call 109;with_reducible refine(c5.out).mono ?_;rintro e w' ⟨rfl,rfl⟩)|fail)
  rw[rounds_succ]
  go_wp2_with (first|(go_at_call 84;with_reducible refine(KA.out).mono ?_;rintro e w' ⟨rfl,rfl⟩)|(go_at_call 84;with_reducible refine(KB.out).mono ?_;rintro e w' ⟨rfl,rfl⟩)|(go_at_call 109;with_reducible refine(c0.out).mono ?_;rintro e w' ⟨rfl,rfl⟩)|(go_at_call 109;with_reducible refine(c1.out).mono ?_;rintro e w' ⟨rfl,rfl⟩)|(go_at_call 109;with_reducible refine(c2.out).mono ?_;rintro e w' ⟨rfl,rfl⟩)|(go_at_call 109;with_reducible refine(c3.out).mono ?_;rintro e w' ⟨rfl,rfl⟩)|(go_at_call 109;with_reducible refine(c4.out).mono ?_;rintro e w' ⟨rfl,rfl⟩)|(go_at_call 109;with_reducible refine(c5.out).mono ?_;rintro e w' ⟨rfl,rfl⟩)|fail)
  rw[rounds_succ]
  go_wp2_with (first|(go_at_call 84;with_reducible refine(KA.out).mono ?_;rintro e w' ⟨rfl,rfl⟩)|(go_at_call 84;with_reducible refine(KB.out).mono ?_;rintro e w' ⟨rfl,rfl⟩)|(go_at_call 109;with_reducible refine(c0.out).mono ?_;rintro e w' ⟨rfl,rfl⟩)|(go_at_call 109;with_reducible refine(c1.out).mono ?_;rintro e w' ⟨rfl,rfl⟩)|(go_at_call 109;with_reducible refine(c2.out).mono ?_;rintro e w' ⟨rfl,rfl⟩)|(go_at_call 109;with_reducible refine(c3.out).mono ?_;rintro e w' ⟨rfl,rfl⟩)|(go_at_call 109;with_reducible refine(c4.out).mono ?_;rintro e w' ⟨rfl,rfl⟩)|(go_at_call 109;with_reducible refine(c5.out).mono ?_;rintro e w' ⟨rfl,rfl⟩)|fail)
  go_ret
  exact⟨rfl,rfl⟩
 ·have mb:modeB 4=true:=by decide
  rw[mb] at KB
  go_enter func85,ntmps85
  go_wp2_with (first|(go_at_call 84;with_reducible refine(KA.out).mono ?_;rintro e w' ⟨rfl,rfl⟩)|(go_at_call 84;with_reducible refine(KB.out).mono ?_;rintro e w' ⟨rfl,rfl⟩)|(go_at_call 109;with_reducible refine(c0.out).mono ?_;rintro e w' ⟨rfl,rfl⟩)|(go_at_call 109;with_reducible refine(c1.out).mono ?_;rintro e w' ⟨rfl,rfl⟩)|(go_at_call 109;with_reducible refine(c2.out).mono ?_;rintro e w' ⟨rfl,rfl⟩)|(go_at_call 109;with_reducible refine(c3.out).mono ?_;rintro e w' ⟨rfl,rfl⟩)|(go_at_call 109;with_reducible refine(c4.out).mono ?_;rintro e w' ⟨rfl,rfl⟩)|(go_at_call 109;with_reducible refine(c5.out).mono ?_;rintro e w' ⟨rfl,rfl⟩)|fail)
  refine wp_loop_rounds 4 ?_
  rw[rounds_succ]
  go_wp2_with (first|(go_at_call 84;with_reducible refine(KA.out).mono ?_;rintro e w' ⟨rfl,rfl⟩)|(go_at_call 84;with_reducible refine(KB.out).mono ?_;rintro e w' ⟨rfl,rfl⟩)|(go_at_call 109;with_reducible refine(c0.out).mono ?_;rintro e w' ⟨rfl,rfl⟩)|(go_at_call 109;with_reducible refine(c1.out).mono ?_;rintro e w' ⟨rfl,rfl⟩)|(go_at_call 109;with_reducible refine(c2.out).mono ?_;rintro e w' ⟨rfl,rfl⟩)|(go_at_call 109;with_reducible refine(c3.out).mono ?_;rintro e w' ⟨rfl,rfl⟩)|(go_at_call 109;with_reducible refine(c4.out).mono ?_;rintro e w' ⟨rfl,rfl⟩)|(go_at_call 109;with_reducible refine(c5.out).mono ?_;rintro e w' ⟨rfl,rfl⟩)|fail)
  rw[rounds_succ]
  go_wp2_with (first|(go_at_call 84;with_reducible refine(KA.out).mono ?_;rintro e w' ⟨rfl,rfl⟩)|(go_at_call 84;with_reducible refine(KB.out).mono ?_;rintro e w' ⟨rfl,rfl⟩)|(go_at_call 109;with_reducible refine(c0.out).mono ?_;rintro e w' ⟨rfl,rfl⟩)|(go_at_call 109;with_reducible refine(c1.out).mono ?_;rintro e w' ⟨rfl,rfl⟩)|(go_at_call 109;with_reducible refine(c2.out).mono ?_;rintro e w' ⟨rfl,rfl⟩)|(go_at_call 109;with_reducible refine(c3.out).mono ?_;rintro e w' ⟨rfl,rfl⟩)|(go_at_call 109;with_reducible refine(c4.out).mono ?_;rintro e w' ⟨rfl,rfl⟩)|(go_at_call 109;with_reducible refine(c5.out).mono ?_;rintro e w' ⟨rfl,rfl⟩)|fail)
  rw[rounds_succ]
  go_wp2_with (first|(go_at_call 84;with_reducible refine(KA.out).mono ?_;rintro e w' ⟨rfl,rfl⟩)|(go_at_call 84;with_reducible refine(KB.out).mono ?_;rintro e w' ⟨rfl,rfl⟩)|(go_at_call 109;with_reducible refine(c0.out).mono ?_;rintro e w' ⟨rfl,rfl⟩)|(go_at_call 109;with_reducible refine(c1.out).mono ?_;rintro e w' ⟨rfl,rfl⟩)|(go_at_call 109;with_reducible refine(c2.out).mono ?_;rintro e w' ⟨rfl,rfl⟩)|(go_at_call 109;with_reducible refine(c3.out).mono ?_;rintro e w' ⟨rfl,rfl⟩)|(go_at_call 109;with_reducible refine(c4.out).mono ?_;rintro e w' ⟨rfl,rfl⟩)|(go_at_call 109;with_reducible refine(c5.out).mono ?_;rintro e w' ⟨rfl,rfl⟩)|fail)
  rw[rounds_succ]
  go_wp2_with (first|(go_at_call 84;with_reducible refine(KA.out).mono ?_;rintro e w' ⟨rfl,rfl⟩)|(go_at_call 84;with_reducible refine(KB.out).mono ?_;rintro e w' ⟨rfl,rfl⟩)|(go_at_call 109;with_reducible refine(c0.out).mono ?_;rintro e w' ⟨rfl,rfl⟩)|(go_at_call 109;with_reducible refine(c1.out).mono ?_;rintro e w' ⟨rfl,rfl⟩)|(go_at_call 109;with_reducible refine(c2.out).mono ?_;rintro e w' ⟨rfl,rfl⟩)|(go_at_call 109;with_reducible refine(c3.out).mono ?_;rintro e w' ⟨rfl,rfl⟩)|(go_at_call 109;with_reducible refine(c4.out).mono ?_;rintro e w' ⟨rfl,rfl⟩)|(go_at_call 109;with_reducible refine(c5.out).mono ?_;rintro e w' ⟨rfl,rfl⟩)|fail)
  go_ret
  exact⟨rfl,rfl⟩
 ·have mb:modeB 5=true:=by decide
  rw[mb] at KB
  go_enter func85,ntmps85
  go_wp2_with (first|(go_at_call 84;with_reducible refine(KA.out).mono ?_;rintro e w' ⟨rfl,rfl⟩)|(go_at_call 84;with_reducible refine(KB.out).mono ?_;rintro e w' ⟨rfl,rfl⟩)|(go_at_call 109;with_reducible refine(c0.out).mono ?_;rintro e w' ⟨rfl,rfl⟩)|(go_at_call 109;with_reducible refine(c1.out).mono ?_;rintro e w' ⟨rfl,rfl⟩)|(go_at_call 109;with_reducible refine(c2.out).mono ?_;rintro e w' ⟨rfl,rfl⟩)|(go_at_call 109;with_reducible refine(c3.out).mono ?_;rintro e w' ⟨rfl,rfl⟩)|(go_at_call 109;with_reducible refine(c4.out).mono ?_;rintro e w' ⟨rfl,rfl⟩)|(go_at_call 109;with_reducible refine(c5.out).mono ?_;rintro e w' ⟨rfl,rfl⟩)|fail)
  refine wp_loop_rounds 5 ?_
  rw[rounds_succ]
  go_wp2_with (first|(go_at_call 84;with_reducible refine(KA.out).mono ?_;rintro e w' ⟨rfl,rfl⟩)|(go_at_call 84;with_reducible refine(KB.out).mono ?_;rintro e w' ⟨rfl,rfl⟩)|(go_at_call 109;with_reducible refine(c0.out).mono ?_;rintro e w' ⟨rfl,rfl⟩)|(go_at_call 109;with_reducible refine(c1.out).mono ?_;rintro e w' ⟨rfl,rfl⟩)|(go_at_call 109;with_reducible refine(c2.out).mono ?_;rintro e w' ⟨rfl,rfl⟩)|(go_at_call 109;with_reducible refine(c3.out).mono ?_;rintro e w' ⟨rfl,rfl⟩)|(go_at_call 109;with_reducible refine(c4.out).mono ?_;rintro e w' ⟨rfl,rfl⟩)|(go_at_call 109;with_reducible refine(c5.out).mono ?_;rintro e w' ⟨rfl,rfl⟩)|fail)
  rw[rounds_succ]
  go_wp2_with (first|(go_at_call 84;with_reducible refine(KA.out).mono ?_;rintro e w' ⟨rfl,rfl⟩)|(go_at_call 84;with_reducible refine(KB.out).mono ?_;rintro e w' ⟨rfl,rfl⟩)|(go_at_call 109;with_reducible refine(c0.out).mono ?_;rintro e w' ⟨rfl,rfl⟩)|(go_at_call 109;with_reducible refine(c1.out).mono ?_;rintro e w' ⟨rfl,rfl⟩)|(go_at_call 109;with_reducible refine(c2.out).mono ?_;rintro e w' ⟨rfl,rfl⟩)|(go_at_call 109;with_reducible refine(c3.out).mono ?_;rintro e w' ⟨rfl,rfl⟩)|(go_at_call 109;with_reducible refine(c4.out).mono ?_;rintro e w' ⟨rfl,rfl⟩)|(go_at_call 109;with_reducible refine(c5.out).mono ?_;rintro e w' ⟨rfl,rfl⟩)|fail)
  rw[rounds_succ]
  go_wp2_with (first|(go_at_call 84;with_reducible refine(KA.out).mono ?_;rintro e w' ⟨rfl,rfl⟩)|(go_at_call 84;with_reducible refine(KB.out).mono ?_;rintro e w' ⟨rfl,rfl⟩)|(go_at_call 109;with_reducible refine(c0.out).mono ?_;rintro e w' ⟨rfl,rfl⟩)|(go_at_call 109;with_reducible refine(c1.out).mono ?_;rintro e w' ⟨rfl,rfl⟩)|(go_at_call 109;with_reducible refine(c2.out).mono ?_;rintro e w' ⟨rfl,rfl⟩)|(go_at_call 109;with_reducible refine(c3.out).mono ?_;rintro e w' ⟨rfl,rfl⟩)|(go_at_call 109;with_reducible refine(c4.out).mono ?_;rintro e w' ⟨rfl,rfl⟩)|(go_at_call 109;with_reducible refine(c5.out).mono ?_;rintro e w' ⟨rfl,rfl⟩)|fail)
  rw[rounds_succ]
  go_wp2_with (first|(go_at_call 84;with_reducible refine(KA.out).mono ?_;rintro e w' ⟨rfl,rfl⟩)|(go_at_call 84;with_reducible refine(KB.out).mono ?_;rintro e w' ⟨rfl,rfl⟩)|(go_at_call 109;with_reducible refine(c0.out).mono ?_;rintro e w' ⟨rfl,rfl⟩)|(go_at_call 109;with_reducible refine(c1.out).mono ?_;rintro e w' ⟨rfl,rfl⟩)|(go_at_call 109;with_reducible refine(c2.out).mono ?_;rintro e w' ⟨rfl,rfl⟩)|(go_at_call 109;with_reducible refine(c3.out).mono ?_;rintro e w' ⟨rfl,rfl⟩)|(go_at_call 109;with_reducible refine(c4.out).mono ?_;rintro e w' ⟨rfl,rfl⟩)|(go_at_call 109;with_reducible refine(c5.out).mono ?_;rintro e w' ⟨rfl,rfl⟩)|fail)
  rw[rounds_succ]
  go_wp2_with (first|(go_at_call 84;with_reducible refine(KA.out).mono ?_;rintro e w' ⟨rfl,rfl⟩)|(go_at_call 84;with_reducible refine(KB.out).mono ?_;rintro e w' ⟨rfl,rfl⟩)|(go_at_call 109;with_reducible refine(c0.out).mono ?_;rintro e w' ⟨rfl,rfl⟩)|(go_at_call 109;with_reducible refine(c1.out).mono ?_;rintro e w' ⟨rfl,rfl⟩)|(go_at_call 109;with_reducible refine(c2.out).mono ?_;rintro e w' ⟨rfl,rfl⟩)|(go_at_call 109;with_reducible refine(c3.out).mono ?_;rintro e w' ⟨rfl,rfl⟩)|(go_at_call 109;with_reducible refine(c4.out).mono ?_;rintro e w' ⟨rfl,rfl⟩)|(go_at_call 109;with_reducible refine(c5.out).mono ?_;rintro e w' ⟨rfl,rfl⟩)|fail)
  go_ret
  exact⟨rfl,rfl⟩
theorem rjoins_1(b:Int)(hb:jm b)(w:World):Calls prog 85 #[I 1,I b] w fun e w'=>e=.returned (I (joinI 1 b))∧w'=w:=by
 have KA:=hide (rmode_any 1 w)
 have KB:=hide (rmode_any b w)
 have ma:modeB 1=true:=by decide
 rw[ma] at KA
 have h:b=0∨b=1∨b=2∨b=3∨b=4∨b=5:=by rcases hb with h|h<;>omega
 clear hb
 have c0:=hide (cov_0 w)
 have c1:=hide (cov_1 w)
 have c2:=hide (cov_2 w)
 have c3:=hide (cov_3 w)
 have c4:=hide (cov_4 w)
 have c5:=hide (cov_5 w)
 rcases h with rfl|rfl|rfl|rfl|rfl|rfl
 ·have mb:modeB 0=false:=by decide
  rw[mb] at KB
  go_enter func85,ntmps85
  go_wp2_with (first|(go_at_call 84;with_reducible refine(KA.out).mono ?_;rintro e w' ⟨rfl,rfl⟩)|(go_at_call 84;with_reducible refine(KB.out).mono ?_;rintro e w' ⟨rfl,rfl⟩)|(go_at_call 109;with_reducible refine(c0.out).mono ?_;rintro e w' ⟨rfl,rfl⟩)|(go_at_call 109;with_reducible refine(c1.out).mono ?_;rintro e w' ⟨rfl,rfl⟩)|(go_at_call 109;with_reducible refine(c2.out).mono ?_;rintro e w' ⟨rfl,rfl⟩)|(go_at_call 109;with_reducible refine(c3.out).mono ?_;rintro e w' ⟨rfl,rfl⟩)|(go_at_call 109;with_reducible refine(c4.out).mono ?_;rintro e w' ⟨rfl,rfl⟩)|(go_at_call 109;with_reducible refine(c5.out).mono ?_;rintro e w' ⟨rfl,rfl⟩)|fail)
  refine wp_loop_rounds 1 ?_
  rw[rounds_succ]
  go_wp2_with (first|(go_at_call 84;with_reducible refine(KA.out).mono ?_;rintro e w' ⟨rfl,rfl⟩)|(go_at_call 84;with_reducible refine(KB.out).mono ?_;rintro e w' ⟨rfl,rfl⟩)|(go_at_call 109;with_reducible refine(c0.out).mono ?_;rintro e w' ⟨rfl,rfl⟩)|(go_at_call 109;with_reducible refine(c1.out).mono ?_;rintro e w' ⟨rfl,rfl⟩)|(go_at_call 109;with_reducible refine(c2.out).mono ?_;rintro e w' ⟨rfl,rfl⟩)|(go_at_call 109;with_reducible refine(c3.out).mono ?_;rintro e w' ⟨rfl,rfl⟩)|(go_at_call 109;with_reducible refine(c4.out).mono ?_;rintro e w' ⟨rfl,rfl⟩)|(go_at_call 109;with_reducible refine(c5.out).mono ?_;rintro e w' ⟨rfl,rfl⟩)|fail)
  go_ret
  exact⟨rfl,rfl⟩
 ·have mb:modeB 1=true:=by decide
  rw[mb] at KB
  go_enter func85,ntmps85
  go_wp2_with (first|(go_at_call 84;with_reducible refine(KA.out).mono ?_;rintro e w' ⟨rfl,rfl⟩)|(go_at_call 84;with_reducible refine(KB.out).mono ?_;rintro e w' ⟨rfl,rfl⟩)|(go_at_call 109;with_reducible refine(c0.out).mono ?_;rintro e w' ⟨rfl,rfl⟩)|(go_at_call 109;with_reducible refine(c1.out).mono ?_;rintro e w' ⟨rfl,rfl⟩)|(go_at_call 109;with_reducible refine(c2.out).mono ?_;rintro e w' ⟨rfl,rfl⟩)|(go_at_call 109;with_reducible refine(c3.out).mono ?_;rintro e w' ⟨rfl,rfl⟩)|(go_at_call 109;with_reducible refine(c4.out).mono ?_;rintro e w' ⟨rfl,rfl⟩)|(go_at_call 109;with_reducible refine(c5.out).mono ?_;rintro e w' ⟨rfl,rfl⟩)|fail)
  refine wp_loop_rounds 1 ?_
  rw[rounds_succ]
  go_wp2_with (first|(go_at_call 84;with_reducible refine(KA.out).mono ?_;rintro e w' ⟨rfl,rfl⟩)|(go_at_call 84;with_reducible refine(KB.out).mono ?_;rintro e w' ⟨rfl,rfl⟩)|(go_at_call 109;with_reducible refine(c0.out).mono ?_;rintro e w' ⟨rfl,rfl⟩)|(go_at_call 109;with_reducible refine(c1.out).mono ?_;rintro e w' ⟨rfl,rfl⟩)|(go_at_call 109;with_reducible refine(c2.out).mono ?_;rintro e w' ⟨rfl,rfl⟩)|(go_at_call 109;with_reducible refine(c3.out).mono ?_;rintro e w' ⟨rfl,rfl⟩)|(go_at_call 109;with_reducible refine(c4.out).mono ?_;rintro e w' ⟨rfl,rfl⟩)|(go_at_call 109;with_reducible refine(c5.out).mono ?_;rintro e w' ⟨rfl,rfl⟩)|fail)
  go_ret
  exact⟨rfl,rfl⟩
 ·have mb:modeB 2=true:=by decide
  rw[mb] at KB
  go_enter func85,ntmps85
  go_wp2_with (first|(go_at_call 84;with_reducible refine(KA.out).mono ?_;rintro e w' ⟨rfl,rfl⟩)|(go_at_call 84;with_reducible refine(KB.out).mono ?_;rintro e w' ⟨rfl,rfl⟩)|(go_at_call 109;with_reducible refine(c0.out).mono ?_;rintro e w' ⟨rfl,rfl⟩)|(go_at_call 109;with_reducible refine(c1.out).mono ?_;rintro e w' ⟨rfl,rfl⟩)|(go_at_call 109;with_reducible refine(c2.out).mono ?_;rintro e w' ⟨rfl,rfl⟩)|(go_at_call 109;with_reducible refine(c3.out).mono ?_;rintro e w' ⟨rfl,rfl⟩)|(go_at_call 109;with_reducible refine(c4.out).mono ?_;rintro e w' ⟨rfl,rfl⟩)|(go_at_call 109;with_reducible refine(c5.out).mono ?_;rintro e w' ⟨rfl,rfl⟩)|fail)
  refine wp_loop_rounds 2 ?_
  rw[rounds_succ]
  go_wp2_with (first|(go_at_call 84;with_reducible refine(KA.out).mono ?_;rintro e w' ⟨rfl,rfl⟩)|(go_at_call 84;with_reducible refine(KB.out).mono ?_;rintro e w' ⟨rfl,rfl⟩)|(go_at_call 109;with_reducible refine(c0.out).mono ?_;rintro e w' ⟨rfl,rfl⟩)|(go_at_call 109;with_reducible refine(c1.out).mono ?_;rintro e w' ⟨rfl,rfl⟩)|(go_at_call 109;with_reducible refine(c2.out).mono ?_;rintro e w' ⟨rfl,rfl⟩)|(go_at_call 109;with_reducible refine(c3.out).mono ?_;rintro e w' ⟨rfl,rfl⟩)|(go_at_call 109;with_reducible refine(c4.out).mono ?_;rintro e w' ⟨rfl,rfl⟩)|(go_at_call 109;with_reducible refine(c5.out).mono ?_;rintro e w' ⟨rfl,rfl⟩)|fail)
  rw[rounds_succ]
  go_wp2_with (first|(go_at_call 84;with_reducible refine(KA.out).mono ?_;rintro e w' ⟨rfl,rfl⟩)|(go_at_call 84;with_reducible refine(KB.out).mono ?_;rintro e w' ⟨rfl,rfl⟩)|(go_at_call 109;with_reducible refine(c0.out).mono ?_;rintro e w' ⟨rfl,rfl⟩)|(go_at_call 109;with_reducible refine(c1.out).mono ?_;rintro e w' ⟨rfl,rfl⟩)|(go_at_call 109;with_reducible refine(c2.out).mono ?_;rintro e w' ⟨rfl,rfl⟩)|(go_at_call 109;with_reducible refine(c3.out).mono ?_;rintro e w' ⟨rfl,rfl⟩)|(go_at_call 109;with_reducible refine(c4.out).mono ?_;rintro e w' ⟨rfl,rfl⟩)|(go_at_call 109;with_reducible refine(c5.out).mono ?_;rintro e w' ⟨rfl,rfl⟩)|fail)
  go_ret
  exact⟨rfl,rfl⟩
 ·have mb:modeB 3=true:=by decide
  rw[mb] at KB
  go_enter func85,ntmps85
  go_wp2_with (first|(go_at_call 84;with_reducible refine(KA.out).mono ?_;rintro e w' ⟨rfl,rfl⟩)|(go_at_call 84;with_reducible refine(KB.out).mono ?_;rintro e w' ⟨rfl,rfl⟩)|(go_at_call 109;with_reducible refine(c0.out).mono ?_;rintro e w' ⟨rfl,rfl⟩)|(go_at_call 109;with_reducible refine(c1.out).mono ?_;rintro e w' ⟨rfl,rfl⟩)|(go_at_call 109;with_reducible refine(c2.out).mono ?_;rintro e w' ⟨rfl,rfl⟩)|(go_at_call 109;with_reducible refine(c3.out).mono ?_;rintro e w' ⟨rfl,rfl⟩)|(go_at_call 109;with_reducible refine(c4.out).mono ?_;rintro e w' ⟨rfl,rfl⟩)|(go_at_call 109;with_reducible refine(c5.out).mono ?_;rintro e w' ⟨rfl,rfl⟩)|fail)
  refine wp_loop_rounds 3 ?_
  rw[rounds_succ]
  go_wp2_with (first|(go_at_call 84;with_reducible refine(KA.out).mono ?_;rintro e w' ⟨rfl,rfl⟩)|(go_at_call 84;with_reducible refine(KB.out).mono ?_;rintro e w' ⟨rfl,rfl⟩)|(go_at_call 109;with_reducible refine(c0.out).mono ?_;rintro e w' ⟨rfl,rfl⟩)|(go_at_call 109;with_reducible refine(c1.out).mono ?_;rintro e w' ⟨rfl,rfl⟩)|(go_at_call 109;with_reducible refine(c2.out).mono ?_;rintro e w' ⟨rfl,rfl⟩)|(go_at_call 109;with_reducible refine(c3.out).mono ?_;rintro e w' ⟨rfl,rfl⟩)|(go_at_call 109;with_reducible refine(c4.out).mono ?_;rintro e w' ⟨rfl,rfl⟩)|(go_at_call 109;with_reducible refine(c5.out).mono ?_;rintro e w' ⟨rfl,rfl⟩)|fail)
  rw[rounds_succ]
  go_wp2_with (first|(go_at_call 84;with_reducible refine(KA.out).mono ?_;rintro e w' ⟨rfl,rfl⟩)|(go_at_call 84;with_reducible refine(KB.out).mono ?_;rintro e w' ⟨rfl,rfl⟩)|(go_at_call 109;with_reducible refine(c0.out).mono ?_;rintro e w' ⟨rfl,rfl⟩)|(go_at_call 109;with_reducible refine(c1.out).mono ?_;rintro e w' ⟨rfl,rfl⟩)|(go_at_call 109;with_reducible refine(c2.out).mono ?_;rintro e w' ⟨rfl,rfl⟩)|(go_at_call 109;with_reducible refine(c3.out).mono ?_;rintro e w' ⟨rfl,rfl⟩)|(go_at_call 109;with_reducible refine(c4.out).mono ?_;rintro e w' ⟨rfl,rfl⟩)|(go_at_call 109;with_reducible refine(c5.out).mono ?_;rintro e w' ⟨rfl,rfl⟩)|fail)
  rw[rounds_succ]
  go_wp2_with (first|(go_at_call 84;with_reducible refine(KA.out).mono ?_;rintro e w' ⟨rfl,rfl⟩)|(go_at_call 84;with_reducible refine(KB.out).mono ?_;rintro e w' ⟨rfl,rfl⟩)|(go_at_call 109;with_reducible refine(c0.out).mono ?_;rintro e w' ⟨rfl,rfl⟩)|(go_at_call 109;with_reducible refine(c1.out).mono ?_;rintro e w' ⟨rfl,rfl⟩)|(go_at_call 109;with_reducible refine(c2.out).mono ?_;rintro e w' ⟨rfl,rfl⟩)|(go_at_call 109;with_reducible refine(c3.out).mono ?_;rintro e w' ⟨rfl,rfl⟩)|(go_at_call 109;with_reducible refine(c4.out).mono ?_;rintro e w' ⟨rfl,rfl⟩)|(go_at_call 109;with_reducible refine(c5.out).mono ?_;rintro e w' ⟨rfl,rfl⟩)|fail)
  go_ret
  exact⟨rfl,rfl⟩
 ·have mb:modeB 4=true:=by decide
  rw[mb] at KB
  go_enter func85,ntmps85
  go_wp2_with (first|(go_at_call 84;with_reducible refine(KA.out).mono ?_;rintro e w' ⟨rfl,rfl⟩)|(go_at_call 84;with_reducible refine(KB.out).mono ?_;rintro e w' ⟨rfl,rfl⟩)|(go_at_call 109;with_reducible refine(c0.out).mono ?_;rintro e w' ⟨rfl,rfl⟩)|(go_at_call 109;with_reducible refine(c1.out).mono ?_;rintro e w' ⟨rfl,rfl⟩)|(go_at_call 109;with_reducible refine(c2.out).mono ?_;rintro e w' ⟨rfl,rfl⟩)|(go_at_call 109;with_reducible refine(c3.out).mono ?_;rintro e w' ⟨rfl,rfl⟩)|(go_at_call 109;with_reducible refine(c4.out).mono ?_;rintro e w' ⟨rfl,rfl⟩)|(go_at_call 109;with_reducible refine(c5.out).mono ?_;rintro e w' ⟨rfl,rfl⟩)|fail)
  refine wp_loop_rounds 4 ?_
  rw[rounds_succ]
  go_wp2_with (first|(go_at_call 84;with_reducible refine(KA.out).mono ?_;rintro e w' ⟨rfl,rfl⟩)|(go_at_call 84;with_reducible refine(KB.out).mono ?_;rintro e w' ⟨rfl,rfl⟩)|(go_at_call 109;with_reducible refine(c0.out).mono ?_;rintro e w' ⟨rfl,rfl⟩)|(go_at_call 109;with_reducible refine(c1.out).mono ?_;rintro e w' ⟨rfl,rfl⟩)|(go_at_call 109;with_reducible refine(c2.out).mono ?_;rintro e w' ⟨rfl,rfl⟩)|(go_at_call 109;with_reducible refine(c3.out).mono ?_;rintro e w' ⟨rfl,rfl⟩)|(go_at_call 109;with_reducible refine(c4.out).mono ?_;rintro e w' ⟨rfl,rfl⟩)|(go_at_call 109;with_reducible refine(c5.out).mono ?_;rintro e w' ⟨rfl,rfl⟩)|fail)
  rw[rounds_succ]
  go_wp2_with (first|(go_at_call 84;with_reducible refine(KA.out).mono ?_;rintro e w' ⟨rfl,rfl⟩)|(go_at_call 84;with_reducible refine(KB.out).mono ?_;rintro e w' ⟨rfl,rfl⟩)|(go_at_call 109;with_reducible refine(c0.out).mono ?_;rintro e w' ⟨rfl,rfl⟩)|(go_at_call 109;with_reducible refine(c1.out).mono ?_;rintro e w' ⟨rfl,rfl⟩)|(go_at_call 109;with_reducible refine(c2.out).mono ?_;rintro e w' ⟨rfl,rfl⟩)|(go_at_call 109;with_reducible refine(c3.out).mono ?_;rintro e w' ⟨rfl,rfl⟩)|(go_at_call 109;with_reducible refine(c4.out).mono ?_;rintro e w' ⟨rfl,rfl⟩)|(go_at_call 109;with_reducible refine(c5.out).mono ?_;rintro e w' ⟨rfl,rfl⟩)|fail)
  rw[rounds_succ]
  go_wp2_with (first|(go_at_call 84;with_reducible refine(KA.out).mono ?_;rintro e w' ⟨rfl,rfl⟩)|(go_at_call 84;with_reducible refine(KB.out).mono ?_;rintro e w' ⟨rfl,rfl⟩)|(go_at_call 109;with_reducible refine(c0.out).mono ?_;rintro e w' ⟨rfl,rfl⟩)|(go_at_call 109;with_reducible refine(c1.out).mono ?_;rintro e w' ⟨rfl,rfl⟩)|(go_at_call 109;with_reducible refine(c2.out).mono ?_;rintro e w' ⟨rfl,rfl⟩)|(go_at_call 109;with_reducible refine(c3.out).mono ?_;rintro e w' ⟨rfl,rfl⟩)|(go_at_call 109;with_reducible refine(c4.out).mono ?_;rintro e w' ⟨rfl,rfl⟩)|(go_at_call 109;with_reducible refine(c5.out).mono ?_;rintro e w' ⟨rfl,rfl⟩)|fail)
  rw[rounds_succ]
  go_wp2_with (first|(go_at_call 84;with_reducible refine(KA.out).mono ?_;rintro e w' ⟨rfl,rfl⟩)|(go_at_call 84;with_reducible refine(KB.out).mono ?_;rintro e w' ⟨rfl,rfl⟩)|(go_at_call 109;with_reducible refine(c0.out).mono ?_;rintro e w' ⟨rfl,rfl⟩)|(go_at_call 109;with_reducible refine(c1.out).mono ?_;rintro e w' ⟨rfl,rfl⟩)|(go_at_call 109;with_reducible refine(c2.out).mono ?_;rintro e w' ⟨rfl,rfl⟩)|(go_at_call 109;with_reducible refine(c3.out).mono ?_;rintro e w' ⟨rfl,rfl⟩)|(go_at_call 109;with_reducible refine(c4.out).mono ?_;rintro e w' ⟨rfl,rfl⟩)|(go_at_call 109;with_reducible refine(c5.out).mono ?_;rintro e w' ⟨rfl,rfl⟩)|fail)
  go_ret
  exact⟨rfl,rfl⟩
 ·have mb:modeB 5=true:=by decide
  rw[mb] at KB
  go_enter func85,ntmps85
  go_wp2_with (first|(go_at_call 84;with_reducible refine(KA.out).mono ?_;rintro e w' ⟨rfl,rfl⟩)|(go_at_call 84;with_reducible refine(KB.out).mono ?_;rintro e w' ⟨rfl,rfl⟩)|(go_at_call 109;with_reducible refine(c0.out).mono ?_;rintro e w' ⟨rfl,rfl⟩)|(go_at_call 109;with_reducible refine(c1.out).mono ?_;rintro e w' ⟨rfl,rfl⟩)|(go_at_call 109;with_reducible refine(c2.out).mono ?_;rintro e w' ⟨rfl,rfl⟩)|(go_at_call 109;with_reducible refine(c3.out).mono ?_;rintro e w' ⟨rfl,rfl⟩)|(go_at_call 109;with_reducible refine(c4.out).mono ?_;rintro e w' ⟨rfl,rfl⟩)|(go_at_call 109;with_reducible refine(c5.out).mono ?_;rintro e w' ⟨rfl,rfl⟩)|fail)
  refine wp_loop_rounds 5 ?_
  rw[rounds_succ]
  go_wp2_with (first|(go_at_call 84;with_reducible refine(KA.out).mono ?_;rintro e w' ⟨rfl,rfl⟩)|(go_at_call 84;with_reducible refine(KB.out).mono ?_;rintro e w' ⟨rfl,rfl⟩)|(go_at_call 109;with_reducible refine(c0.out).mono ?_;rintro e w' ⟨rfl,rfl⟩)|(go_at_call 109;with_reducible refine(c1.out).mono ?_;rintro e w' ⟨rfl,rfl⟩)|(go_at_call 109;with_reducible refine(c2.out).mono ?_;rintro e w' ⟨rfl,rfl⟩)|(go_at_call 109;with_reducible refine(c3.out).mono ?_;rintro e w' ⟨rfl,rfl⟩)|(go_at_call 109;with_reducible refine(c4.out).mono ?_;rintro e w' ⟨rfl,rfl⟩)|(go_at_call 109;with_reducible refine(c5.out).mono ?_;rintro e w' ⟨rfl,rfl⟩)|fail)
  rw[rounds_succ]
  go_wp2_with (first|(go_at_call 84;with_reducible refine(KA.out).mono ?_;rintro e w' ⟨rfl,rfl⟩)|(go_at_call 84;with_reducible refine(KB.out).mono ?_;rintro e w' ⟨rfl,rfl⟩)|(go_at_call 109;with_reducible refine(c0.out).mono ?_;rintro e w' ⟨rfl,rfl⟩)|(go_at_call 109;with_reducible refine(c1.out).mono ?_;rintro e w' ⟨rfl,rfl⟩)|(go_at_call 109;with_reducible refine(c2.out).mono ?_;rintro e w' ⟨rfl,rfl⟩)|(go_at_call 109;with_reducible refine(c3.out).mono ?_;rintro e w' ⟨rfl,rfl⟩)|(go_at_call 109;with_reducible refine(c4.out).mono ?_;rintro e w' ⟨rfl,rfl⟩)|(go_at_call 109;with_reducible refine(c5.out).mono ?_;rintro e w' ⟨rfl,rfl⟩)|fail)
  rw[rounds_succ]
  go_wp2_with (first|(go_at_call 84;with_reducible refine(KA.out).mono ?_;rintro e w' ⟨rfl,rfl⟩)|(go_at_call 84;with_reducible refine(KB.out).mono ?_;rintro e w' ⟨rfl,rfl⟩)|(go_at_call 109;with_reducible refine(c0.out).mono ?_;rintro e w' ⟨rfl,rfl⟩)|(go_at_call 109;with_reducible refine(c1.out).mono ?_;rintro e w' ⟨rfl,rfl⟩)|(go_at_call 109;with_reducible refine(c2.out).mono ?_;rintro e w' ⟨rfl,rfl⟩)|(go_at_call 109;with_reducible refine(c3.out).mono ?_;rintro e w' ⟨rfl,rfl⟩)|(go_at_call 109;with_reducible refine(c4.out).mono ?_;rintro e w' ⟨rfl,rfl⟩)|(go_at_call 109;with_reducible refine(c5.out).mono ?_;rintro e w' ⟨rfl,rfl⟩)|fail)
  rw[rounds_succ]
  go_wp2_with (first|(go_at_call 84;with_reducible refine(KA.out).mono ?_;rintro e w' ⟨rfl,rfl⟩)|(go_at_call 84;with_reducible refine(KB.out).mono ?_;rintro e w' ⟨rfl,rfl⟩)|(go_at_call 109;with_reducible refine(c0.out).mono ?_;rintro e w' ⟨rfl,rfl⟩)|(go_at_call 109;with_reducible refine(c1.out).mono ?_;rintro e w' ⟨rfl,rfl⟩)|(go_at_call 109;with_reducible refine(c2.out).mono ?_;rintro e w' ⟨rfl,rfl⟩)|(go_at_call 109;with_reducible refine(c3.out).mono ?_;rintro e w' ⟨rfl,rfl⟩)|(go_at_call 109;with_reducible refine(c4.out).mono ?_;rintro e w' ⟨rfl,rfl⟩)|(go_at_call 109;with_reducible refine(c5.out).mono ?_;rintro e w' ⟨rfl,rfl⟩)|fail)
  rw[rounds_succ]
  go_wp2_with (first|(go_at_call 84;with_reducible refine(KA.out).mono ?_;rintro e w' ⟨rfl,rfl⟩)|(go_at_call 84;with_reducible refine(KB.out).mono ?_;rintro e w' ⟨rfl,rfl⟩)|(go_at_call 109;with_reducible refine(c0.out).mono ?_;rintro e w' ⟨rfl,rfl⟩)|(go_at_call 109;with_reducible refine(c1.out).mono ?_;rintro e w' ⟨rfl,rfl⟩)|(go_at_call 109;with_reducible refine(c2.out).mono ?_;rintro e w' ⟨rfl,rfl⟩)|(go_at_call 109;with_reducible refine(c3.out).mono ?_;rintro e w' ⟨rfl,rfl⟩)|(go_at_call 109;with_reducible refine(c4.out).mono ?_;rintro e w' ⟨rfl,rfl⟩)|(go_at_call 109;with_reducible refine(c5.out).mono ?_;rintro e w' ⟨rfl,rfl⟩)|fail)
  go_ret
  exact⟨rfl,rfl⟩
theorem rjoins_2(b:Int)(hb:jm b)(w:World):Calls prog 85 #[I 2,I b] w fun e w'=>e=.returned (I (joinI 2 b))∧w'=w:=by
 have KA:=hide (rmode_any 2 w)
 have KB:=hide (rmode_any b w)
 have ma:modeB 2=true:=by decide
 rw[ma] at KA
 have h:b=0∨b=1∨b=2∨b=3∨b=4∨b=5:=by rcases hb with h|h<;>omega
 clear hb
 have c0:=hide (cov_0 w)
 have c1:=hide (cov_1 w)
 have c2:=hide (cov_2 w)
 have c3:=hide (cov_3 w)
 have c4:=hide (cov_4 w)
 have c5:=hide (cov_5 w)
 rcases h with rfl|rfl|rfl|rfl|rfl|rfl
 ·have mb:modeB 0=false:=by decide
  rw[mb] at KB
  go_enter func85,ntmps85
  go_wp2_with (first|(go_at_call 84;with_reducible refine(KA.out).mono ?_;rintro e w' ⟨rfl,rfl⟩)|(go_at_call 84;with_reducible refine(KB.out).mono ?_;rintro e w' ⟨rfl,rfl⟩)|(go_at_call 109;with_reducible refine(c0.out).mono ?_;rintro e w' ⟨rfl,rfl⟩)|(go_at_call 109;with_reducible refine(c1.out).mono ?_;rintro e w' ⟨rfl,rfl⟩)|(go_at_call 109;with_reducible refine(c2.out).mono ?_;rintro e w' ⟨rfl,rfl⟩)|(go_at_call 109;with_reducible refine(c3.out).mono ?_;rintro e w' ⟨rfl,rfl⟩)|(go_at_call 109;with_reducible refine(c4.out).mono ?_;rintro e w' ⟨rfl,rfl⟩)|(go_at_call 109;with_reducible refine(c5.out).mono ?_;rintro e w' ⟨rfl,rfl⟩)|fail)
  refine wp_loop_rounds 2 ?_
  rw[rounds_succ]
  go_wp2_with (first|(go_at_call 84;with_reducible refine(KA.out).mono ?_;rintro e w' ⟨rfl,rfl⟩)|(go_at_call 84;with_reducible refine(KB.out).mono ?_;rintro e w' ⟨rfl,rfl⟩)|(go_at_call 109;with_reducible refine(c0.out).mono ?_;rintro e w' ⟨rfl,rfl⟩)|(go_at_call 109;with_reducible refine(c1.out).mono ?_;rintro e w' ⟨rfl,rfl⟩)|(go_at_call 109;with_reducible refine(c2.out).mono ?_;rintro e w' ⟨rfl,rfl⟩)|(go_at_call 109;with_reducible refine(c3.out).mono ?_;rintro e w' ⟨rfl,rfl⟩)|(go_at_call 109;with_reducible refine(c4.out).mono ?_;rintro e w' ⟨rfl,rfl⟩)|(go_at_call 109;with_reducible refine(c5.out).mono ?_;rintro e w' ⟨rfl,rfl⟩)|fail)
  rw[rounds_succ]
  go_wp2_with (first|(go_at_call 84;with_reducible refine(KA.out).mono ?_;rintro e w' ⟨rfl,rfl⟩)|(go_at_call 84;with_reducible refine(KB.out).mono ?_;rintro e w' ⟨rfl,rfl⟩)|(go_at_call 109;with_reducible refine(c0.out).mono ?_;rintro e w' ⟨rfl,rfl⟩)|(go_at_call 109;with_reducible refine(c1.out).mono ?_;rintro e w' ⟨rfl,rfl⟩)|(go_at_call 109;with_reducible refine(c2.out).mono ?_;rintro e w' ⟨rfl,rfl⟩)|(go_at_call 109;with_reducible refine(c3.out).mono ?_;rintro e w' ⟨rfl,rfl⟩)|(go_at_call 109;with_reducible refine(c4.out).mono ?_;rintro e w' ⟨rfl,rfl⟩)|(go_at_call 109;with_reducible refine(c5.out).mono ?_;rintro e w' ⟨rfl,rfl⟩)|fail)
  go_ret
  exact⟨rfl,rfl⟩
 ·have mb:modeB 1=true:=by decide
  rw[mb] at KB
  go_enter func85,ntmps85
  go_wp2_with (first|(go_at_call 84;with_reducible refine(KA.out).mono ?_;rintro e w' ⟨rfl,rfl⟩)|(go_at_call 84;with_reducible refine(KB.out).mono ?_;rintro e w' ⟨rfl,rfl⟩)|(go_at_call 109;with_reducible refine(c0.out).mono ?_;rintro e w' ⟨rfl,rfl⟩)|(go_at_call 109;with_reducible refine(c1.out).mono ?_;rintro e w' ⟨rfl,rfl⟩)|(go_at_call 109;with_reducible refine(c2.out).mono ?_;rintro e w' ⟨rfl,rfl⟩)|(go_at_call 109;with_reducible refine(c3.out).mono ?_;rintro e w' ⟨rfl,rfl⟩)|(go_at_call 109;with_reducible refine(c4.out).mono ?_;rintro e w' ⟨rfl,rfl⟩)|(go_at_call 109;with_reducible refine(c5.out).mono ?_;rintro e w' ⟨rfl,rfl⟩)|fail)
  refine wp_loop_rounds 2 ?_
  rw[rounds_succ]
  go_wp2_with (first|(go_at_call 84;with_reducible refine(KA.out).mono ?_;rintro e w' ⟨rfl,rfl⟩)|(go_at_call 84;with_reducible refine(KB.out).mono ?_;rintro e w' ⟨rfl,rfl⟩)|(go_at_call 109;with_reducible refine(c0.out).mono ?_;rintro e w' ⟨rfl,rfl⟩)|(go_at_call 109;with_reducible refine(c1.out).mono ?_;rintro e w' ⟨rfl,rfl⟩)|(go_at_call 109;with_reducible refine(c2.out).mono ?_;rintro e w' ⟨rfl,rfl⟩)|(go_at_call 109;with_reducible refine(c3.out).mono ?_;rintro e w' ⟨rfl,rfl⟩)|(go_at_call 109;with_reducible refine(c4.out).mono ?_;rintro e w' ⟨rfl,rfl⟩)|(go_at_call 109;with_reducible refine(c5.out).mono ?_;rintro e w' ⟨rfl,rfl⟩)|fail)
  rw[rounds_succ]
  go_wp2_with (first|(go_at_call 84;with_reducible refine(KA.out).mono ?_;rintro e w' ⟨rfl,rfl⟩)|(go_at_call 84;with_reducible refine(KB.out).mono ?_;rintro e w' ⟨rfl,rfl⟩)|(go_at_call 109;with_reducible refine(c0.out).mono ?_;rintro e w' ⟨rfl,rfl⟩)|(go_at_call 109;with_reducible refine(c1.out).mono ?_;rintro e w' ⟨rfl,rfl⟩)|(go_at_call 109;with_reducible refine(c2.out).mono ?_;rintro e w' ⟨rfl,rfl⟩)|(go_at_call 109;with_reducible refine(c3.out).mono ?_;rintro e w' ⟨rfl,rfl⟩)|(go_at_call 109;with_reducible refine(c4.out).mono ?_;rintro e w' ⟨rfl,rfl⟩)|(go_at_call 109;with_reducible refine(c5.out).mono ?_;rintro e w' ⟨rfl,rfl⟩)|fail)
  go_ret
  exact⟨rfl,rfl⟩
 ·have mb:modeB 2=true:=by decide
  rw[mb] at KB
  go_enter func85,ntmps85
  go_wp2_with (first|(go_at_call 84;with_reducible refine(KA.out).mono ?_;rintro e w' ⟨rfl,rfl⟩)|(go_at_call 84;with_reducible refine(KB.out).mono ?_;rintro e w' ⟨rfl,rfl⟩)|(go_at_call 109;with_reducible refine(c0.out).mono ?_;rintro e w' ⟨rfl,rfl⟩)|(go_at_call 109;with_reducible refine(c1.out).mono ?_;rintro e w' ⟨rfl,rfl⟩)|(go_at_call 109;with_reducible refine(c2.out).mono ?_;rintro e w' ⟨rfl,rfl⟩)|(go_at_call 109;with_reducible refine(c3.out).mono ?_;rintro e w' ⟨rfl,rfl⟩)|(go_at_call 109;with_reducible refine(c4.out).mono ?_;rintro e w' ⟨rfl,rfl⟩)|(go_at_call 109;with_reducible refine(c5.out).mono ?_;rintro e w' ⟨rfl,rfl⟩)|fail)
  refine wp_loop_rounds 2 ?_
  rw[rounds_succ]
  go_wp2_with (first|(go_at_call 84;with_reducible refine(KA.out).mono ?_;rintro e w' ⟨rfl,rfl⟩)|(go_at_call 84;with_reducible refine(KB.out).mono ?_;rintro e w' ⟨rfl,rfl⟩)|(go_at_call 109;with_reducible refine(c0.out).mono ?_;rintro e w' ⟨rfl,rfl⟩)|(go_at_call 109;with_reducible refine(c1.out).mono ?_;rintro e w' ⟨rfl,rfl⟩)|(go_at_call 109;with_reducible refine(c2.out).mono ?_;rintro e w' ⟨rfl,rfl⟩)|(go_at_call 109;with_reducible refine(c3.out).mono ?_;rintro e w' ⟨rfl,rfl⟩)|(go_at_call 109;with_reducible refine(c4.out).mono ?_;rintro e w' ⟨rfl,rfl⟩)|(go_at_call 109;with_reducible refine(c5.out).mono ?_;rintro e w' ⟨rfl,rfl⟩)|fail)
  rw[rounds_succ]
  go_wp2_with (first|(go_at_call 84;with_reducible refine(KA.out).mono ?_;rintro e w' ⟨rfl,rfl⟩)|(go_at_call 84;with_reducible refine(KB.out).mono ?_;rintro e w' ⟨rfl,rfl⟩)|(go_at_call 109;with_reducible refine(c0.out).mono ?_;rintro e w' ⟨rfl,rfl⟩)|(go_at_call 109;with_reducible refine(c1.out).mono ?_;rintro e w' ⟨rfl,rfl⟩)|(go_at_call 109;with_reducible refine(c2.out).mono ?_;rintro e w' ⟨rfl,rfl⟩)|(go_at_call 109;with_reducible refine(c3.out).mono ?_;rintro e w' ⟨rfl,rfl⟩)|(go_at_call 109;with_reducible refine(c4.out).mono ?_;rintro e w' ⟨rfl,rfl⟩)|(go_at_call 109;with_reducible refine(c5.out).mono ?_;rintro e w' ⟨rfl,rfl⟩)|fail)
  go_ret
  exact⟨rfl,rfl⟩
 ·have mb:modeB 3=true:=by decide
  rw[mb] at KB
  go_enter func85,ntmps85
  go_wp2_with (first|(go_at_call 84;with_reducible refine(KA.out).mono ?_;rintro e w' ⟨rfl,rfl⟩)|(go_at_call 84;with_reducible refine(KB.out).mono ?_;rintro e w' ⟨rfl,rfl⟩)|(go_at_call 109;with_reducible refine(c0.out).mono ?_;rintro e w' ⟨rfl,rfl⟩)|(go_at_call 109;with_reducible refine(c1.out).mono ?_;rintro e w' ⟨rfl,rfl⟩)|(go_at_call 109;with_reducible refine(c2.out).mono ?_;rintro e w' ⟨rfl,rfl⟩)|(go_at_call 109;with_reducible refine(c3.out).mono ?_;rintro e w' ⟨rfl,rfl⟩)|(go_at_call 109;with_reducible refine(c4.out).mono ?_;rintro e w' ⟨rfl,rfl⟩)|(go_at_call 109;with_reducible refine(c5.out).mono ?_;rintro e w' ⟨rfl,rfl⟩)|fail)
  refine wp_loop_rounds 4 ?_
  rw[rounds_succ]
  go_wp2_with (first|(go_at_call 84;with_reducible refine(KA.out).mono ?_;rintro e w' ⟨rfl,rfl⟩)|(go_at_call 84;with_reducible refine(KB.out).mono ?_;rintro e w' ⟨rfl,rfl⟩)|(go_at_call 109;with_reducible refine(c0.out).mono ?_;rintro e w' ⟨rfl,rfl⟩)|(go_at_call 109;with_reducible refine(c1.out).mono ?_;rintro e w' ⟨rfl,rfl⟩)|(go_at_call 109;with_reducible refine(c2.out).mono ?_;rintro e w' ⟨rfl,rfl⟩)|(go_at_call 109;with_reducible refine(c3.out).mono ?_;rintro e w' ⟨rfl,rfl⟩)|(go_at_call 109;with_reducible refine(c4.out).mono ?_;rintro e w' ⟨rfl,rfl⟩)|(go_at_call 109;with_reducible refine(c5.out).mono ?_;rintro e w' ⟨rfl,rfl⟩)|fail)
  rw[rounds_succ]
  go_wp2_with (first|(go_at_call 84;with_reducible refine(KA.out).mono ?_;rintro e w' ⟨rfl,rfl⟩)|(go_at_call 84;with_reducible refine(KB.out).mono ?_;rintro e w' ⟨rfl,rfl⟩)|(go_at_call 109;with_reducible refine(c0.out).mono ?_;rintro e w' ⟨rfl,rfl⟩)|(go_at_call 109;with_reducible refine(c1.out).mono ?_;rintro e w' ⟨rfl,rfl⟩)|(go_at_call 109;with_reducible refine(c2.out).mono ?_;rintro e w' ⟨rfl,rfl⟩)|(go_at_call 109;with_reducible refine(c3.out).mono ?_;rintro e w' ⟨rfl,rfl⟩)|(go_at_call 109;with_reducible refine(c4.out).mono ?_;rintro e w' ⟨rfl,rfl⟩)|(go_at_call 109;with_reducible refine(c5.out).mono ?_;rintro e w' ⟨rfl,rfl⟩)|fail)
  rw[rounds_succ]
  go_wp2_with (first|(go_at_call 84;with_reducible refine(KA.out).mono ?_;rintro e w' ⟨rfl,rfl⟩)|(go_at_call 84;with_reducible refine(KB.out).mono ?_;rintro e w' ⟨rfl,rfl⟩)|(go_at_call 109;with_reducible refine(c0.out).mono ?_;rintro e w' ⟨rfl,rfl⟩)|(go_at_call 109;with_reducible refine(c1.out).mono ?_;rintro e w' ⟨rfl,rfl⟩)|(go_at_call 109;with_reducible refine(c2.out).mono ?_;rintro e w' ⟨rfl,rfl⟩)|(go_at_call 109;with_reducible refine(c3.out).mono ?_;rintro e w' ⟨rfl,rfl⟩)|(go_at_call 109;with_reducible refine(c4.out).mono ?_;rintro e w' ⟨rfl,rfl⟩)|(go_at_call 109;with_reducible refine(c5.out).mono ?_;rintro e w' ⟨rfl,rfl⟩)|fail)
  rw[rounds_succ]
  go_wp2_with (first|(go_at_call 84;with_reducible refine(KA.out).mono ?_;rintro e w' ⟨rfl,rfl⟩)|(go_at_call 84;with_reducible refine(KB.out).mono ?_;rintro e w' ⟨rfl,rfl⟩)|(go_at_call 109;with_reducible refine(c0.out).mono ?_;rintro e w' ⟨rfl,rfl⟩)|(go_at_call 109;with_reducible refine(c1.out).mono ?_;rintro e w' ⟨rfl,rfl⟩)|(go_at_call 109;with_reducible refine(c2.out).mono ?_;rintro e w' ⟨rfl,rfl⟩)|(go_at_call 109;with_reducible refine(c3.out).mono ?_;rintro e w' ⟨rfl,rfl⟩)|(go_at_call 109;with_reducible refine(c4.out).mono ?_;rintro e w' ⟨rfl,rfl⟩)|(go_at_call 109;with_reducible refine(c5.out).mono ?_;rintro e w' ⟨rfl,rfl⟩)|fail)
  go_ret
  exact⟨rfl,rfl⟩
 ·have mb:modeB 4=true:=by decide
  rw[mb] at KB
  go_enter func85,ntmps85
  go_wp2_with (first|(go_at_call 84;with_reducible refine(KA.out).mono ?_;rintro e w' ⟨rfl,rfl⟩)|(go_at_call 84;with_reducible refine(KB.out).mono ?_;rintro e w' ⟨rfl,rfl⟩)|(go_at_call 109;with_reducible refine(c0.out).mono ?_;rintro e w' ⟨rfl,rfl⟩)|(go_at_call 109;with_reducible refine(c1.out).mono ?_;rintro e w' ⟨rfl,rfl⟩)|(go_at_call 109;with_reducible refine(c2.out).mono ?_;rintro e w' ⟨rfl,rfl⟩)|(go_at_call 109;with_reducible refine(c3.out).mono ?_;rintro e w' ⟨rfl,rfl⟩)|(go_at_call 109;with_reducible refine(c4.out).mono ?_;rintro e w' ⟨rfl,rfl⟩)|(go_at_call 109;with_reducible refine(c5.out).mono ?_;rintro e w' ⟨rfl,rfl⟩)|fail)
  refine wp_loop_rounds 4 ?_
  rw[rounds_succ]
  go_wp2_with (first|(go_at_call 84;with_reducible refine(KA.out).mono ?_;rintro e w' ⟨rfl,rfl⟩)|(go_at_call 84;with_reducible refine(KB.out).mono ?_;rintro e w' ⟨rfl,rfl⟩)|(go_at_call 109;with_reducible refine(c0.out).mono ?_;rintro e w' ⟨rfl,rfl⟩)|(go_at_call 109;with_reducible refine(c1.out).mono ?_;rintro e w' ⟨rfl,rfl⟩)|(go_at_call 109;with_reducible refine(c2.out).mono ?_;rintro e w' ⟨rfl,rfl⟩)|(go_at_call 109;with_reducible refine(c3.out).mono ?_;rintro e w' ⟨rfl,rfl⟩)|(go_at_call 109;with_reducible refine(c4.out).mono ?_;rintro e w' ⟨rfl,rfl⟩)|(go_at_call 109;with_reducible refine(c5.out).mono ?_;rintro e w' ⟨rfl,rfl⟩)|fail)
  rw[rounds_succ]
  go_wp2_with (first|(go_at_call 84;with_reducible refine(KA.out).mono ?_;rintro e w' ⟨rfl,rfl⟩)|(go_at_call 84;with_reducible refine(KB.out).mono ?_;rintro e w' ⟨rfl,rfl⟩)|(go_at_call 109;with_reducible refine(c0.out).mono ?_;rintro e w' ⟨rfl,rfl⟩)|(go_at_call 109;with_reducible refine(c1.out).mono ?_;rintro e w' ⟨rfl,rfl⟩)|(go_at_call 109;with_reducible refine(c2.out).mono ?_;rintro e w' ⟨rfl,rfl⟩)|(go_at_call 109;with_reducible refine(c3.out).mono ?_;rintro e w' ⟨rfl,rfl⟩)|(go_at_call 109;with_reducible refine(c4.out).mono ?_;rintro e w' ⟨rfl,rfl⟩)|(go_at_call 109;with_reducible refine(c5.out).mono ?_;rintro e w' ⟨rfl,rfl⟩)|fail)
  rw[rounds_succ]
  go_wp2_with (first|(go_at_call 84;with_reducible refine(KA.out).mono ?_;rintro e w' ⟨rfl,rfl⟩)|(go_at_call 84;with_reducible refine(KB.out).mono ?_;rintro e w' ⟨rfl,rfl⟩)|(go_at_call 109;with_reducible refine(c0.out).mono ?_;rintro e w' ⟨rfl,rfl⟩)|(go_at_call 109;with_reducible refine(c1.out).mono ?_;rintro e w' ⟨rfl,rfl⟩)|(go_at_call 109;with_reducible refine(c2.out).mono ?_;rintro e w' ⟨rfl,rfl⟩)|(go_at_call 109;with_reducible refine(c3.out).mono ?_;rintro e w' ⟨rfl,rfl⟩)|(go_at_call 109;with_reducible refine(c4.out).mono ?_;rintro e w' ⟨rfl,rfl⟩)|(go_at_call 109;with_reducible refine(c5.out).mono ?_;rintro e w' ⟨rfl,rfl⟩)|fail)
  rw[rounds_succ]
  go_wp2_with (first|(go_at_call 84;with_reducible refine(KA.out).mono ?_;rintro e w' ⟨rfl,rfl⟩)|(go_at_call 84;with_reducible refine(KB.out).mono ?_;rintro e w' ⟨rfl,rfl⟩)|(go_at_call 109;with_reducible refine(c0.out).mono ?_;rintro e w' ⟨rfl,rfl⟩)|(go_at_call 109;with_reducible refine(c1.out).mono ?_;rintro e w' ⟨rfl,rfl⟩)|(go_at_call 109;with_reducible refine(c2.out).mono ?_;rintro e w' ⟨rfl,rfl⟩)|(go_at_call 109;with_reducible refine(c3.out).mono ?_;rintro e w' ⟨rfl,rfl⟩)|(go_at_call 109;with_reducible refine(c4.out).mono ?_;rintro e w' ⟨rfl,rfl⟩)|(go_at_call 109;with_reducible refine(c5.out).mono ?_;rintro e w' ⟨rfl,rfl⟩)|fail)
  go_ret
  exact⟨rfl,rfl⟩
 ·have mb:modeB 5=true:=by decide
  rw[mb] at KB
  go_enter func85,ntmps85
  go_wp2_with (first|(go_at_call 84;with_reducible refine(KA.out).mono ?_;rintro e w' ⟨rfl,rfl⟩)|(go_at_call 84;with_reducible refine(KB.out).mono ?_;rintro e w' ⟨rfl,rfl⟩)|(go_at_call 109;with_reducible refine(c0.out).mono ?_;rintro e w' ⟨rfl,rfl⟩)|(go_at_call 109;with_reducible refine(c1.out).mono ?_;rintro e w' ⟨rfl,rfl⟩)|(go_at_call 109;with_reducible refine(c2.out).mono ?_;rintro e w' ⟨rfl,rfl⟩)|(go_at_call 109;with_reducible refine(c3.out).mono ?_;rintro e w' ⟨rfl,rfl⟩)|(go_at_call 109;with_reducible refine(c4.out).mono ?_;rintro e w' ⟨rfl,rfl⟩)|(go_at_call 109;with_reducible refine(c5.out).mono ?_;rintro e w' ⟨rfl,rfl⟩)|fail)
  refine wp_loop_rounds 5 ?_
  rw[rounds_succ]
  go_wp2_with (first|(go_at_call 84;with_reducible refine(KA.out).mono ?_;rintro e w' ⟨rfl,rfl⟩)|(go_at_call 84;with_reducible refine(KB.out).mono ?_;rintro e w' ⟨rfl,rfl⟩)|(go_at_call 109;with_reducible refine(c0.out).mono ?_;rintro e w' ⟨rfl,rfl⟩)|(go_at_call 109;with_reducible refine(c1.out).mono ?_;rintro e w' ⟨rfl,rfl⟩)|(go_at_call 109;with_reducible refine(c2.out).mono ?_;rintro e w' ⟨rfl,rfl⟩)|(go_at_call 109;with_reducible refine(c3.out).mono ?_;rintro e w' ⟨rfl,rfl⟩)|(go_at_call 109;with_reducible refine(c4.out).mono ?_;rintro e w' ⟨rfl,rfl⟩)|(go_at_call 109;with_reducible refine(c5.out).mono ?_;rintro e w' ⟨rfl,rfl⟩)|fail)
  rw[rounds_succ]
  go_wp2_with (first|(go_at_call 84;with_reducible refine(KA.out).mono ?_;rintro e w' ⟨rfl,rfl⟩)|(go_at_call 84;with_reducible refine(KB.out).mono ?_;rintro e w' ⟨rfl,rfl⟩)|(go_at_call 109;with_reducible refine(c0.out).mono ?_;rintro e w' ⟨rfl,rfl⟩)|(go_at_call 109;with_reducible refine(c1.out).mono ?_;rintro e w' ⟨rfl,rfl⟩)|(go_at_call 109;with_reducible refine(c2.out).mono ?_;rintro e w' ⟨rfl,rfl⟩)|(go_at_call 109;with_reducible refine(c3.out).mono ?_;rintro e w' ⟨rfl,rfl⟩)|(go_at_call 109;with_reducible refine(c4.out).mono ?_;rintro e w' ⟨rfl,rfl⟩)|(go_at_call 109;with_reducible refine(c5.out).mono ?_;rintro e w' ⟨rfl,rfl⟩)|fail)
  rw[rounds_succ]
  go_wp2_with (first|(go_at_call 84;with_reducible refine(KA.out).mono ?_;rintro e w' ⟨rfl,rfl⟩)|(go_at_call 84;with_reducible refine(KB.out).mono ?_;rintro e w' ⟨rfl,rfl⟩)|(go_at_call 109;with_reducible refine(c0.out).mono ?_;rintro e w' ⟨rfl,rfl⟩)|(go_at_call 109;with_reducible refine(c1.out).mono ?_;rintro e w' ⟨rfl,rfl⟩)|(go_at_call 109;with_reducible refine(c2.out).mono ?_;rintro e w' ⟨rfl,rfl⟩)|(go_at_call 109;with_reducible refine(c3.out).mono ?_;rintro e w' ⟨rfl,rfl⟩)|(go_at_call 109;with_reducible refine(c4.out).mono ?_;rintro e w' ⟨rfl,rfl⟩)|(go_at_call 109;with_reducible refine(c5.out).mono ?_;rintro e w' ⟨rfl,rfl⟩)|fail)
  rw[rounds_succ]
  go_wp2_with (first|(go_at_call 84;with_reducible refine(KA.out).mono ?_;rintro e w' ⟨rfl,rfl⟩)|(go_at_call 84;with_reducible refine(KB.out).mono ?_;rintro e w' ⟨rfl,rfl⟩)|(go_at_call 109;with_reducible refine(c0.out).mono ?_;rintro e w' ⟨rfl,rfl⟩)|(go_at_call 109;with_reducible refine(c1.out).mono ?_;rintro e w' ⟨rfl,rfl⟩)|(go_at_call 109;with_reducible refine(c2.out).mono ?_;rintro e w' ⟨rfl,rfl⟩)|(go_at_call 109;with_reducible refine(c3.out).mono ?_;rintro e w' ⟨rfl,rfl⟩)|(go_at_call 109;with_reducible refine(c4.out).mono ?_;rintro e w' ⟨rfl,rfl⟩)|(go_at_call 109;with_reducible refine(c5.out).mono ?_;rintro e w' ⟨rfl,rfl⟩)|fail)
  rw[rounds_succ]
  go_wp2_with (first|(go_at_call 84;with_reducible refine(KA.out).mono ?_;rintro e w' ⟨rfl,rfl⟩)|(go_at_call 84;with_reducible refine(KB.out).mono ?_;rintro e w' ⟨rfl,rfl⟩)|(go_at_call 109;with_reducible refine(c0.out).mono ?_;rintro e w' ⟨rfl,rfl⟩)|(go_at_call 109;with_reducible refine(c1.out).mono ?_;rintro e w' ⟨rfl,rfl⟩)|(go_at_call 109;with_reducible refine(c2.out).mono ?_;rintro e w' ⟨rfl,rfl⟩)|(go_at_call 109;with_reducible refine(c3.out).mono ?_;rintro e w' ⟨rfl,rfl⟩)|(go_at_call 109;with_reducible refine(c4.out).mono ?_;rintro e w' ⟨rfl,rfl⟩)|(go_at_call 109;with_reducible refine(c5.out).mono ?_;rintro e w' ⟨rfl,rfl⟩)|fail)
  go_ret
  exact⟨rfl,rfl⟩
end
end Go.Proofs.YtoefbpldmlebdaaGreatDoor
