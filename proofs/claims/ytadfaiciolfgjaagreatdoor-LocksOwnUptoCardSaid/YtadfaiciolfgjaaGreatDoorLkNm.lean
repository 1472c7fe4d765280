import Derived.PlainAid
import Derived.LoopTactic
import Derived.Test.YtadfaiciolfgjaaGreatDoorLk0
namespace Go.Proofs.YtadfaiciolfgjaaGreatDoor
open Go.Proofs.Tryz
set_option maxHeartbeats 1000000
set_option maxRecDepth 100000
section
open Go.RowKit Go.PlainAid
def chP(x:Int):Prop:=(97≤x∧x≤122)∨(48≤x∧x≤57)
def NameP(s:ByteArray):Prop:=1≤s.size∧s.size≤8∧97≤bt s 0∧∀j,j<s.size→chP (bt s j)
noncomputable def nameB(s:ByteArray):Bool:=@decide (NameP s) (Classical.propDecidable _)
theorem nameB_yes{s:ByteArray}(h:NameP s):Ending.returned (.bool true)=.returned (.bool (nameB s)):=by
 have:nameB s=true:=@decide_eq_true _ (Classical.propDecidable _) h
 rw[this]
theorem nameB_no{s:ByteArray}(h:¬NameP s):Ending.returned (.bool false)=.returned (.bool (nameB s)):=by
 have:nameB s=false:=@decide_eq_false _ (Classical.propDecidable _) h
 rw[this]
theorem nameB_true{s:ByteArray}(h:nameB s=true):NameP s:=@of_decide_eq_true _ (Classical.propDecidable _) h
theorem nameB_iff(s:ByteArray):nameB s=true↔NameP s:=⟨nameB_true,@decide_eq_true _ (Classical.propDecidable _)⟩
theorem isLetter_yes(n:Int)(h1:97≤n)(h2:n≤122)(w:World):Calls prog 86 #[.int .u8 n] w fun e w'=>e=.returned (.bool true)∧w'=w:=by
 go_enter func86,ntmps86
 go_wp2
 go_ret
 exact⟨rfl,rfl⟩
theorem isLetter_no(n:Int)(h0:0≤n)(h255:n≤255)(h:n<97∨122<n)(w:World):Calls prog 86 #[.int .u8 n] w fun e w'=>e=.returned (.bool false)∧w'=w:=by
 by_cases h1:97≤n
 ·have h2:¬n≤122:=by omega
  clear h
  go_enter func86,ntmps86
  go_wp2
  go_ret
  exact⟨rfl,rfl⟩
 ·clear h
  go_enter func86,ntmps86
  go_wp2
  go_ret
  exact⟨rfl,rfl⟩
theorem isDigit_yes(n:Int)(h1:48≤n)(h2:n≤57)(w:World):Calls prog 87 #[.int .u8 n] w fun e w'=>e=.returned (.bool true)∧w'=w:=by
 go_enter func87,ntmps87
 go_wp2
 go_ret
 exact⟨rfl,rfl⟩
theorem isDigit_no(n:Int)(h0:0≤n)(h255:n≤255)(h:n<48∨57<n)(w:World):Calls prog 87 #[.int .u8 n] w fun e w'=>e=.returned (.bool false)∧w'=w:=by
 by_cases h1:48≤n
 ·have h2:¬n≤57:=by omega
  clear h
  go_enter func87,ntmps87
  go_wp2
  go_ret
  exact⟨rfl,rfl⟩
 ·clear h
  go_enter func87,ntmps87
  go_wp2
  go_ret
  exact⟨rfl,rfl⟩
theorem Name_any(s:ByteArray)(w:World):Calls prog 53 #[.string s] w fun e w'=>e=.returned (.bool (nameB s))∧w'=w:=by
 have hb:=get_bt s
 by_cases h:1≤s.size∧s.size≤8
 ·obtain⟨h1,h2⟩:=h
  have h0:=bt_nonneg s 0
  have h00:=bt_le s 0
  by_cases h3:97≤bt s 0∧bt s 0≤122
  ·have HL:Hid _:=isLetter_yes (bt s 0) h3.1 h3.2
   obtain⟨h3,_⟩:=h3
   go_enter func53,ntmps53
   go_wp2_with fail
   refine(HL.out _).mono ?_
   rintro e w1 ⟨rfl,rfl⟩
   go_wp2
   go_loop [3,20] (fun _ i=>∃n:Nat,n≤s.size∧i=.int .i64 n∧∀j,j<n→chP (bt s j)) (fun _ i=>s.size-(RowKit.intOf i).toNat)
   case atStart=>exact⟨0,Nat.zero_le _,rfl,fun j hj=>absurd hj (Nat.not_lt_zero j)⟩
   case round=>
    obtain⟨n,hn,rfl,hv⟩:=hrel
    have HV:Hid (∀j,j<n→chP (bt s j)):=hv
    clear hv
    by_cases hlt:n<s.size
    ·have hI:(n:Int)<(s.size:Int):=by omega
     have x0:=bt_nonneg s n
     have x1:=bt_le s n
     by_cases c1:97≤bt s n∧bt s n≤122
     ·have HC:Hid (chP (bt s n)):=Or.inl c1
      have HX:Hid _:=isLetter_yes (bt s n) c1.1 c1.2
      clear c1
      go_wp2_with fail
      refine(HX.out _).mono ?_
      rintro e w1 ⟨rfl,rfl⟩
      go_wp2
      go_round
      case rel=>exact⟨n+1,by omega,by go_num,fun j hj=>by
       rcases Nat.lt_succ_iff_lt_or_eq.1 hj with h|h
       ·exact HV.out j h
       ·rw[h];exact HC.out⟩
      case measure=>simp[RowKit.intOf];omega
     ·have HX:Hid _:=isLetter_no (bt s n) x0 x1 (by omega)
      by_cases c2:48≤bt s n∧bt s n≤57
      ·have HC:Hid (chP (bt s n)):=Or.inr c2
       have HY:Hid _:=isDigit_yes (bt s n) c2.1 c2.2
       clear c1 c2
       go_wp2_with fail
       refine(HX.out _).mono ?_
       rintro e w1 ⟨rfl,rfl⟩
       go_wp2_with fail
       refine(HY.out _).mono ?_
       rintro e w1 ⟨rfl,rfl⟩
       go_wp2
       go_round
       case rel=>exact⟨n+1,by omega,by go_num,fun j hj=>by
        rcases Nat.lt_succ_iff_lt_or_eq.1 hj with h|h
        ·exact HV.out j h
        ·rw[h];exact HC.out⟩
       case measure=>simp[RowKit.intOf];omega
      ·have HC:Hid (¬chP (bt s n)):=fun h=>h.elim c1 c2
       have HY:Hid _:=isDigit_no (bt s n) x0 x1 (by omega)
       clear c1 c2
       go_wp2_with fail
       refine(HX.out _).mono ?_
       rintro e w1 ⟨rfl,rfl⟩
       go_wp2_with fail
       refine(HY.out _).mono ?_
       rintro e w1 ⟨rfl,rfl⟩
       go_wp2
       go_ret
       exact⟨nameB_no (fun h=>HC.out (h.2.2.2 n hlt)),rfl⟩
    ·have hI:¬(n:Int)<(s.size:Int):=by omega
     go_wp2
     go_ret
     exact⟨nameB_yes ⟨h1,h2,h3,fun j hj=>HV.out j (by omega)⟩,rfl⟩
  ·have HL:Hid _:=isLetter_no (bt s 0) h0 h00 (by omega)
   have HN:Hid (¬NameP s):=fun hh=>by
    have:=hh.2.2.2 0 (by omega)
    have:=hh.2.2.1
    unfold chP at *
    omega
   clear h3
   go_enter func53,ntmps53
   go_wp2_with fail
   refine(HL.out _).mono ?_
   rintro e w1 ⟨rfl,rfl⟩
   go_wp2
   go_ret
   exact⟨nameB_no HN.out,rfl⟩
 ·have HN:Hid (¬NameP s):=fun hh=>h ⟨hh.1,hh.2.1⟩
  by_cases h1:1≤s.size
  ·have h2:¬s.size≤8:=fun h2=>h ⟨h1,h2⟩
   clear h
   go_enter func53,ntmps53
   go_wp2
   go_ret
   exact⟨nameB_no HN.out,rfl⟩
  ·clear h
   go_enter func53,ntmps53
   go_wp2
   go_ret
   exact⟨nameB_no HN.out,rfl⟩
end
end Go.Proofs.YtadfaiciolfgjaaGreatDoor
