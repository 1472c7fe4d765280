import Derived.LoopTactic
import Derived.Test.YtoefbpldmlebdaaGreatDoorLk5
namespace Go.Proofs.YtoefbpldmlebdaaGreatDoor
open Go.Proofs.Tryz
set_option maxHeartbeats 1000000
set_option maxRecDepth 100000
section
open Go.RowKit
theorem rmode_any(a:Int)(w:World):Calls prog 84 #[I a] w fun e w'=>e=.returned (.bool (modeB a))∧w'=w:=by
 by_cases h1:1≤a
 ·by_cases h2:a≤5
  ·go_enter func84,ntmps84
   go_wp2
   go_ret
   exact⟨by rw[modeB_pos h1 h2];rfl,rfl⟩
  ·go_enter func84,ntmps84
   go_wp2
   go_ret
   exact⟨by rw[modeB_neg (by omega)];rfl,rfl⟩
 ·go_enter func84,ntmps84
  go_wp2
  go_ret
  exact⟨by rw[modeB_neg (by omega)];rfl,rfl⟩
theorem cov_0(w:World):Calls prog 109 #[I 0] w fun e w'=>e=.returned (I 0)∧w'=w:=by
 go_enter func109,ntmps109
 go_wp2
 go_ret
 exact⟨rfl,rfl⟩
theorem cov_1(w:World):Calls prog 109 #[I 1] w fun e w'=>e=.returned (I 1)∧w'=w:=by
 go_enter func109,ntmps109
 go_wp2
 go_ret
 exact⟨rfl,rfl⟩
theorem cov_2(w:World):Calls prog 109 #[I 2] w fun e w'=>e=.returned (I 3)∧w'=w:=by
 go_enter func109,ntmps109
 go_wp2
 go_ret
 exact⟨rfl,rfl⟩
theorem cov_3(w:World):Calls prog 109 #[I 3] w fun e w'=>e=.returned (I 5)∧w'=w:=by
 go_enter func109,ntmps109
 go_wp2
 go_ret
 exact⟨rfl,rfl⟩
theorem cov_4(w:World):Calls prog 109 #[I 4] w fun e w'=>e=.returned (I 7)∧w'=w:=by
 go_enter func109,ntmps109
 go_wp2
 go_ret
 exact⟨rfl,rfl⟩
theorem cov_5(w:World):Calls prog 109 #[I 5] w fun e w'=>e=.returned (I 15)∧w'=w:=by
 go_enter func109,ntmps109
 go_wp2
 go_ret
 exact⟨rfl,rfl⟩
theorem rfits_1(b:Int)(hb:1≤b∧b≤5)(w:World):Calls prog 92 #[I 1,I b] w fun e w'=>e=.returned (.bool (fitB 1 b))∧w'=w:=by
 have h:b=1∨b=2∨b=3∨b=4∨b=5:=by omega
 have ka:=rmode_any 1 w
 have kb:=rmode_any b w
 have c1:=hide (cov_1 w)
 rw[modeB_pos (by decide) (by decide)] at ka
 rw[modeB_pos hb.1 hb.2] at kb
 clear hb
 have KA:=hide ka;have KB:=hide kb
 clear ka kb
 rcases h with rfl|rfl|rfl|rfl|rfl
 ·have c2:=hide (cov_1 w)
  go_enter func92,ntmps92
  go_wp2_with (first|(go_at_call 84;with_reducible refine(KA.out).mono ?_;rintro e w' ⟨rfl,rfl⟩)|(go_at_call 84;with_reducible refine(KB.out).mono ?_;rintro e w' ⟨rfl,rfl⟩)|(go_at_call 109;with_reducible refine(c1.out).mono ?_;rintro e w' ⟨rfl,rfl⟩)|(go_at_call 109;with_reducible refine(c2.out).mono ?_;rintro e w' ⟨rfl,rfl⟩)|fail)
  go_ret
  exact⟨rfl,rfl⟩
 ·have c2:=hide (cov_2 w)
  go_enter func92,ntmps92
  go_wp2_with (first|(go_at_call 84;with_reducible refine(KA.out).mono ?_;rintro e w' ⟨rfl,rfl⟩)|(go_at_call 84;with_reducible refine(KB.out).mono ?_;rintro e w' ⟨rfl,rfl⟩)|(go_at_call 109;with_reducible refine(c1.out).mono ?_;rintro e w' ⟨rfl,rfl⟩)|(go_at_call 109;with_reducible refine(c2.out).mono ?_;rintro e w' ⟨rfl,rfl⟩)|fail)
  go_ret
  exact⟨rfl,rfl⟩
 ·have c2:=hide (cov_3 w)
  go_enter func92,ntmps92
  go_wp2_with (first|(go_at_call 84;with_reducible refine(KA.out).mono ?_;rintro e w' ⟨rfl,rfl⟩)|(go_at_call 84;with_reducible refine(KB.out).mono ?_;rintro e w' ⟨rfl,rfl⟩)|(go_at_call 109;with_reducible refine(c1.out).mono ?_;rintro e w' ⟨rfl,rfl⟩)|(go_at_call 109;with_reducible refine(c2.out).mono ?_;rintro e w' ⟨rfl,rfl⟩)|fail)
  go_ret
  exact⟨rfl,rfl⟩
 ·have c2:=hide (cov_4 w)
  go_enter func92,ntmps92
  go_wp2_with (first|(go_at_call 84;with_reducible refine(KA.out).mono ?_;rintro e w' ⟨rfl,rfl⟩)|(go_at_call 84;with_reducible refine(KB.out).mono ?_;rintro e w' ⟨rfl,rfl⟩)|(go_at_call 109;with_reducible refine(c1.out).mono ?_;rintro e w' ⟨rfl,rfl⟩)|(go_at_call 109;with_reducible refine(c2.out).mono ?_;rintro e w' ⟨rfl,rfl⟩)|fail)
  go_ret
  exact⟨rfl,rfl⟩
 ·have c2:=hide (cov_5 w)
  go_enter func92,ntmps92
  go_wp2_with (first|(go_at_call 84;with_reducible refine(KA.out).mono ?_;rintro e w' ⟨rfl,rfl⟩)|(go_at_call 84;with_reducible refine(KB.out).mono ?_;rintro e w' ⟨rfl,rfl⟩)|(go_at_call 109;with_reducible refine(c1.out).mono ?_;rintro e w' ⟨rfl,rfl⟩)|(go_at_call 109;with_reducible refine(c2.out).mono ?_;rintro e w' ⟨rfl,rfl⟩)|fail)
  go_ret
  exact⟨rfl,rfl⟩
theorem rfits_2(b:Int)(hb:1≤b∧b≤5)(w:World):Calls prog 92 #[I 2,I b] w fun e w'=>e=.returned (.bool (fitB 2 b))∧w'=w:=by
 have h:b=1∨b=2∨b=3∨b=4∨b=5:=by omega
 have ka:=rmode_any 2 w
 have kb:=rmode_any b w
 have c1:=hide (cov_2 w)
 rw[modeB_pos (by decide) (by decide)] at ka
 rw[modeB_pos hb.1 hb.2] at kb
 clear hb
 have KA:=hide ka;have KB:=hide kb
 clear ka kb
 rcases h with rfl|rfl|rfl|rfl|rfl
 ·have c2:=hide (cov_1 w)
  go_enter func92,ntmps92
  go_wp2_with (first|(go_at_call 84;with_reducible refine(KA.out).mono ?_;rintro e w' ⟨rfl,rfl⟩)|(go_at_call 84;with_reducible refine(KB.out).mono ?_;rintro e w' ⟨rfl,rfl⟩)|(go_at_call 109;with_reducible refine(c1.out).mono ?_;rintro e w' ⟨rfl,rfl⟩)|(go_at_call 109;with_reducible refine(c2.out).mono ?_;rintro e w' ⟨rfl,rfl⟩)|fail)
  go_ret
  exact⟨rfl,rfl⟩
 ·have c2:=hide (cov_2 w)
  go_enter func92,ntmps92
  go_wp2_with (first|(go_at_call 84;with_reducible refine(KA.out).mono ?_;rintro e w' ⟨rfl,rfl⟩)|(go_at_call 84;with_reducible refine(KB.out).mono ?_;rintro e w' ⟨rfl,rfl⟩)|(go_at_call 109;with_reducible refine(c1.out).mono ?_;rintro e w' ⟨rfl,rfl⟩)|(go_at_call 109;with_reducible refine(c2.out).mono ?_;rintro e w' ⟨rfl,rfl⟩)|fail)
  go_ret
  exact⟨rfl,rfl⟩
 ·have c2:=hide (cov_3 w)
  go_enter func92,ntmps92
  go_wp2_with (first|(go_at_call 84;with_reducible refine(KA.out).mono ?_;rintro e w' ⟨rfl,rfl⟩)|(go_at_call 84;with_reducible refine(KB.out).mono ?_;rintro e w' ⟨rfl,rfl⟩)|(go_at_call 109;with_reducible refine(c1.out).mono ?_;rintro e w' ⟨rfl,rfl⟩)|(go_at_call 109;with_reducible refine(c2.out).mono ?_;rintro e w' ⟨rfl,rfl⟩)|fail)
  go_ret
  exact⟨rfl,rfl⟩
 ·have c2:=hide (cov_4 w)
  go_enter func92,ntmps92
  go_wp2_with (first|(go_at_call 84;with_reducible refine(KA.out).mono ?_;rintro e w' ⟨rfl,rfl⟩)|(go_at_call 84;with_reducible refine(KB.out).mono ?_;rintro e w' ⟨rfl,rfl⟩)|(go_at_call 109;with_reducible refine(c1.out).mono ?_;rintro e w' ⟨rfl,rfl⟩)|(go_at_call 109;with_reducible refine(c2.out).mono ?_;rintro e w' ⟨rfl,rfl⟩)|fail)
  go_ret
  exact⟨rfl,rfl⟩
 ·have c2:=hide (cov_5 w)
  go_enter func92,ntmps92
  go_wp2_with (first|(go_at_call 84;with_reducible refine(KA.out).mono ?_;rintro e w' ⟨rfl,rfl⟩)|(go_at_call 84;with_reducible refine(KB.out).mono ?_;rintro e w' ⟨rfl,rfl⟩)|(go_at_call 109;with_reducible refine(c1.out).mono ?_;rintro e w' ⟨rfl,rfl⟩)|(go_at_call 109;with_reducible refine(c2.out).mono ?_;rintro e w' ⟨rfl,rfl⟩)|fail)
  go_ret
  exact⟨rfl,rfl⟩
theorem rfits_3(b:Int)(hb:1≤b∧b≤5)(w:World):Calls prog 92 #[I 3,I b] w fun e w'=>e=.returned (.bool (fitB 3 b))∧w'=w:=by
 have h:b=1∨b=2∨b=3∨b=4∨b=5:=by omega
 have ka:=rmode_any 3 w
 have kb:=rmode_any b w
 have c1:=hide (cov_3 w)
 rw[modeB_pos (by decide) (by decide)] at ka
 rw[modeB_pos hb.1 hb.2] at kb
 clear hb
 have KA:=hide ka;have KB:=hide kb
 clear ka kb
 rcases h with rfl|rfl|rfl|rfl|rfl
 ·have c2:=hide (cov_1 w)
  go_enter func92,ntmps92
  go_wp2_with (first|(go_at_call 84;with_reducible refine(KA.out).mono ?_;rintro e w' ⟨rfl,rfl⟩)|(go_at_call 84;with_reducible refine(KB.out).mono ?_;rintro e w' ⟨rfl,rfl⟩)|(go_at_call 109;with_reducible refine(c1.out).mono ?_;rintro e w' ⟨rfl,rfl⟩)|(go_at_call 109;with_reducible refine(c2.out).mono ?_;rintro e w' ⟨rfl,rfl⟩)|fail)
  go_ret
  exact⟨rfl,rfl⟩
 ·have c2:=hide (cov_2 w)
  go_enter func92,ntmps92
  go_wp2_with (first|(go_at_call 84;with_reducible refine(KA.out).mono ?_;rintro e w' ⟨rfl,rfl⟩)|(go_at_call 84;with_reducible refine(KB.out).mono ?_;rintro e w' ⟨rfl,rfl⟩)|(go_at_call 109;with_reducible refine(c1.out).mono ?_;rintro e w' ⟨rfl,rfl⟩)|(go_at_call 109;with_reducible refine(c2.out).mono ?_;rintro e w' ⟨rfl,rfl⟩)|fail)
  go_ret
  exact⟨rfl,rfl⟩
 ·have c2:=hide (cov_3 w)
  go_enter func92,ntmps92
  go_wp2_with (first|(go_at_call 84;with_reducible refine(KA.out).mono ?_;rintro e w' ⟨rfl,rfl⟩)|(go_at_call 84;with_reducible refine(KB.out).mono ?_;rintro e w' ⟨rfl,rfl⟩)|(go_at_call 109;with_reducible refine(c1.out).mono ?_;rintro e w' ⟨rfl,rfl⟩)|(go_at_call 109;with_reducible refine(c2.out).mono ?_;rintro e w' ⟨rfl,rfl⟩)|fail)
  go_ret
  exact⟨rfl,rfl⟩
 ·have c2:=hide (cov_4 w)
  go_enter func92,ntmps92
  go_wp2_with (first|(go_at_call 84;with_reducible refine(KA.out).mono ?_;rintro e w' ⟨rfl,rfl⟩)|(go_at_call 84;with_reducible refine(KB.out).mono ?_;rintro e w' ⟨rfl,rfl⟩)|(go_at_call 109;with_reducible refine(c1.out).mono ?_;rintro e w' ⟨rfl,rfl⟩)|(go_at_call 109;with_reducible refine(c2.out).mono ?_;rintro e w' ⟨rfl,rfl⟩)|fail)
  go_ret
  exact⟨rfl,rfl⟩
 ·have c2:=hide (cov_5 w)
  go_enter func92,ntmps92
  go_wp2_with (first|(go_at_call 84;with_reducible refine(KA.out).mono ?_;rintro e w' ⟨rfl,rfl⟩)|(go_at_call 84;with_reducible refine(KB.out).mono ?_;rintro e w' ⟨rfl,rfl⟩)|(go_at_call 109;with_reducible refine(c1.out).mono ?_;rintro e w' ⟨rfl,rfl⟩)|(go_at_call 109;with_reducible refine(c2.out).mono ?_;rintro e w' ⟨rfl,rfl⟩)|fail)
  go_ret
  exact⟨rfl,rfl⟩
theorem rfits_4(b:Int)(hb:1≤b∧b≤5)(w:World):Calls prog 92 #[I 4,I b] w fun e w'=>e=.returned (.bool (fitB 4 b))∧w'=w:=by
 have h:b=1∨b=2∨b=3∨b=4∨b=5:=by omega
 have ka:=rmode_any 4 w
 have kb:=rmode_any b w
 have c1:=hide (cov_4 w)
 rw[modeB_pos (by decide) (by decide)] at ka
 rw[modeB_pos hb.1 hb.2] at kb
 clear hb
 have KA:=hide ka;have KB:=hide kb
 clear ka kb
 rcases h with rfl|rfl|rfl|rfl|rfl
 ·have c2:=hide (cov_1 w)
  go_enter func92,ntmps92
  go_wp2_with (first|(go_at_call 84;with_reducible refine(KA.out).mono ?_;rintro e w' ⟨rfl,rfl⟩)|(go_at_call 84;with_reducible refine(KB.out).mono ?_;rintro e w' ⟨rfl,rfl⟩)|(go_at_call 109;with_reducible refine(c1.out).mono ?_;rintro e w' ⟨rfl,rfl⟩)|(go_at_call 109;with_reducible refine(c2.out).mono ?_;rintro e w' ⟨rfl,rfl⟩)|fail)
  go_ret
  exact⟨rfl,rfl⟩
 ·have c2:=hide (cov_2 w)
  go_enter func92,ntmps92
  go_wp2_with (first|(go_at_call 84;with_reducible refine(KA.out).mono ?_;rintro e w' ⟨rfl,rfl⟩)|(go_at_call 84;with_reducible refine(KB.out).mono ?_;rintro e w' ⟨rfl,rfl⟩)|(go_at_call 109;with_reducible refine(c1.out).mono ?_;rintro e w' ⟨rfl,rfl⟩)|(go_at_call 109;with_reducible refine(c2.out).mono ?_;rintro e w' ⟨rfl,rfl⟩)|fail)
  go_ret
  exact⟨rfl,rfl⟩
 ·have c2:=hide (cov_3 w)
  go_enter func92,ntmps92
  go_wp2_with (first|(go_at_call 84;with_reducible refine(KA.out).mono ?_;rintro e w' ⟨rfl,rfl⟩)|(go_at_call 84;with_reducible refine(KB.out).mono ?_;rintro e w' ⟨rfl,rfl⟩)|(go_at_call 109;with_reducible refine(c1.out).mono ?_;rintro e w' ⟨rfl,rfl⟩)|(go_at_call 109;with_reducible refine(c2.out).mono ?_;rintro e w' ⟨rfl,rfl⟩)|fail)
  go_ret
  exact⟨rfl,rfl⟩
 ·have c2:=hide (cov_4 w)
  go_enter func92,ntmps92
  go_wp2_with (first|(go_at_call 84;with_reducible refine(KA.out).mono ?_;rintro e w' ⟨rfl,rfl⟩)|(go_at_call 84;with_reducible refine(KB.out).mono ?_;rintro e w' ⟨rfl,rfl⟩)|(go_at_call 109;with_reducible refine(c1.out).mono ?_;rintro e w' ⟨rfl,rfl⟩)|(go_at_call 109;with_reducible refine(c2.out).mono ?_;rintro e w' ⟨rfl,rfl⟩)|fail)
  go_ret
  exact⟨rfl,rfl⟩
 ·have c2:=hide (cov_5 w)
  go_enter func92,ntmps92
  go_wp2_with (first|(go_at_call 84;with_reducible refine(KA.out).mono ?_;rintro e w' ⟨rfl,rfl⟩)|(go_at_call 84;with_reducible refine(KB.out).mono ?_;rintro e w' ⟨rfl,rfl⟩)|(go_at_call 109;with_reducible refine(c1.out).mono ?_;rintro e w' ⟨rfl,rfl⟩)|(go_at_call 109;with_reducible refine(c2.out).mono ?_;rintro e w' ⟨rfl,rfl⟩)|fail)
  go_ret
  exact⟨rfl,rfl⟩
theorem rfits_5(b:Int)(hb:1≤b∧b≤5)(w:World):Calls prog 92 #[I 5,I b] w fun e w'=>e=.returned (.bool (fitB 5 b))∧w'=w:=by
 have h:b=1∨b=2∨b=3∨b=4∨b=5:=by omega
 have ka:=rmode_any 5 w
 have kb:=rmode_any b w
 have c1:=hide (cov_5 w)
 rw[modeB_pos (by decide) (by decide)] at ka
 rw[modeB_pos hb.1 hb.2] at kb
 clear hb
 have KA:=hide ka;have KB:=hide kb
 clear ka kb
 rcases h with rfl|rfl|rfl|rfl|rfl
 ·have c2:=hide (cov_1 w)
  go_enter func92,ntmps92
  go_wp2_with (first|(go_at_call 84;with_reducible refine(KA.out).mono ?_;rintro e w' ⟨rfl,rfl⟩)|(go_at_call 84;with_reducible refine(KB.out).mono ?_;rintro e w' ⟨rfl,rfl⟩)|(go_at_call 109;with_reducible refine(c1.out).mono ?_;rintro e w' ⟨rfl,rfl⟩)|(go_at_call 109;with_reducible refine(c2.out).mono ?_;rintro e w' ⟨rfl,rfl⟩)|fail)
  go_ret
  exact⟨rfl,rfl⟩
 ·have c2:=hide (cov_2 w)
  go_enter func92,ntmps92
  go_wp2_with (first|(go_at_call 84;with_reducible refine(KA.out).mono ?_;rintro e w' ⟨rfl,rfl⟩)|(go_at_call 84;with_reducible refine(KB.out).mono ?_;rintro e w' ⟨rfl,rfl⟩)|(go_at_call 109;with_reducible refine(c1.out).mono ?_;rintro e w' ⟨rfl,rfl⟩)|(go_at_call 109;with_reducible refine(c2.out).mono ?_;rintro e w' ⟨rfl,rfl⟩)|fail)
  go_ret
  exact⟨rfl,rfl⟩
 ·have c2:=hide (cov_3 w)
  go_enter func92,ntmps92
  go_wp2_with (first|(go_at_call 84;with_reducible refine(KA.out).mono ?_;rintro e w' ⟨rfl,rfl⟩)|(go_at_call 84;with_reducible refine(KB.out).mono ?_;rintro e w' ⟨rfl,rfl⟩)|(go_at_call 109;with_reducible refine(c1.out).mono ?_;rintro e w' ⟨rfl,rfl⟩)|(go_at_call 109;with_reducible refine(c2.out).mono ?_;rintro e w' ⟨rfl,rfl⟩)|fail)
  go_ret
  exact⟨rfl,rfl⟩
 ·have c2:=hide (cov_4 w)
  go_enter func92,ntmps92
  go_wp2_with (first|(go_at_call 84;with_reducible refine(KA.out).mono ?_;rintro e w' ⟨rfl,rfl⟩)|(go_at_call 84;with_reducible refine(KB.out).mono ?_;rintro e w' ⟨rfl,rfl⟩)|(go_at_call 109;with_reducible refine(c1.out).mono ?_;rintro e w' ⟨rfl,rfl⟩)|(go_at_call 109;with_reducible refine(c2.out).mono ?_;rintro e w' ⟨rfl,rfl⟩)|fail)
  go_ret
  exact⟨rfl,rfl⟩
 ·have c2:=hide (cov_5 w)
  go_enter func92,ntmps92
  go_wp2_with (first|(go_at_call 84;with_reducible refine(KA.out).mono ?_;rintro e w' ⟨rfl,rfl⟩)|(go_at_call 84;with_reducible refine(KB.out).mono ?_;rintro e w' ⟨rfl,rfl⟩)|(go_at_call 109;with_reducible refine(c1.out).mono ?_;rintro e w' ⟨rfl,rfl⟩)|(go_at_call 109;with_reducible refine(c2.out).mono ?_;rintro e w' ⟨rfl,rfl⟩)|fail)
  go_ret
  exact⟨rfl,rfl⟩
theorem rfits_any(a b:Int)(w:World):Calls prog 92 #[I a,I b] w fun e w'=>e=.returned (.bool (fitB a b))∧w'=w:=by
 by_cases h1:1≤a∧a≤5
 ·by_cases h2:1≤b∧b≤5
  ·have h:a=1∨a=2∨a=3∨a=4∨a=5:=by omega
   rcases h with rfl|rfl|rfl|rfl|rfl
   ·exact rfits_1 b h2 w
   ·exact rfits_2 b h2 w
   ·exact rfits_3 b h2 w
   ·exact rfits_4 b h2 w
   ·exact rfits_5 b h2 w
  ·have ka:=rmode_any a w
   have kb:=rmode_any b w
   rw[modeB_pos h1.1 h1.2] at ka
   rw[modeB_neg h2] at kb
   have e:fitB a b=false:=by simp[fitB,modeB_neg h2]
   rw[e]
   have KA:=hide ka;have KB:=hide kb
   clear ka kb
   go_enter func92,ntmps92
   go_wp2_with (first|(go_at_call 84;with_reducible refine(KA.out).mono ?_;rintro e w' ⟨rfl,rfl⟩)|(go_at_call 84;with_reducible refine(KB.out).mono ?_;rintro e w' ⟨rfl,rfl⟩)|fail)
   go_ret
   exact⟨rfl,rfl⟩
 ·have ka:=rmode_any a w
  rw[modeB_neg h1] at ka
  have e:fitB a b=false:=by simp[fitB,modeB_neg h1]
  rw[e]
  have KA:=hide ka
  clear ka
  go_enter func92,ntmps92
  go_wp2_with (first|(go_at_call 84;with_reducible refine(KA.out).mono ?_;rintro e w' ⟨rfl,rfl⟩)|fail)
  go_ret
  exact⟨rfl,rfl⟩
end
end Go.Proofs.YtoefbpldmlebdaaGreatDoor
