/- Of the proof: NJj, NJk -/
import Derived.Test.YtdhopelplokehaaGreatDAv
import Derived.Test.YtdhopelplokehaaGreatDBb
import Derived.Test.YtdhopelplokehaaGreatDBc
set_option maxHeartbeats 400000
set_option linter.unusedVariables false
namespace Go.Proofs.YtdhopelplokehaaGreat
namespace Sp.Sn
open Go.RowKit
theorem turnOf_none (k:Int) (h:k < 0\/7 < k) (w:World) :
  Calls SqN.prog 127 #[.int .i64 k] w fun e w'=>e=.returned (.func (.func (turnF k)) #[] #[])/\Below w.heap.size w w':=by
 have ht:turnF k=135:=by unfold turnF; rw [if_neg (by omega),if_neg (by omega)]
 rw [ht]
 rcases h with h | h
 all_goals
  go_enter SqN.func127,Tryz.ntmps127
  go_wp2
  go_ret
  exact ⟨rfl,bel⟩
theorem turnOf_0 (w:World) :
  Calls SqN.prog 127 #[.int .i64 0] w fun e w'=>e=.returned (.func (.func (turnF 0)) #[] #[])/\Below w.heap.size w w':=by
 go_enter SqN.func127,Tryz.ntmps127
 go_wp2
 go_ret
 exact ⟨rfl,bel⟩
theorem turnOf_1 (w:World) :
  Calls SqN.prog 127 #[.int .i64 1] w fun e w'=>e=.returned (.func (.func (turnF 1)) #[] #[])/\Below w.heap.size w w':=by
 go_enter SqN.func127,Tryz.ntmps127
 go_wp2
 go_ret
 exact ⟨rfl,bel⟩
theorem turnOf_2 (w:World) :
  Calls SqN.prog 127 #[.int .i64 2] w fun e w'=>e=.returned (.func (.func (turnF 2)) #[] #[])/\Below w.heap.size w w':=by
 go_enter SqN.func127,Tryz.ntmps127
 go_wp2
 go_ret
 exact ⟨rfl,bel⟩
theorem turnOf_3 (w:World) :
  Calls SqN.prog 127 #[.int .i64 3] w fun e w'=>e=.returned (.func (.func (turnF 3)) #[] #[])/\Below w.heap.size w w':=by
 go_enter SqN.func127,Tryz.ntmps127
 go_wp2
 go_ret
 exact ⟨rfl,bel⟩
theorem turnOf_4 (w:World) :
  Calls SqN.prog 127 #[.int .i64 4] w fun e w'=>e=.returned (.func (.func (turnF 4)) #[] #[])/\Below w.heap.size w w':=by
 go_enter SqN.func127,Tryz.ntmps127
 go_wp2
 go_ret
 exact ⟨rfl,bel⟩
theorem turnOf_5 (w:World) :
  Calls SqN.prog 127 #[.int .i64 5] w fun e w'=>e=.returned (.func (.func (turnF 5)) #[] #[])/\Below w.heap.size w w':=by
 go_enter SqN.func127,Tryz.ntmps127
 go_wp2
 go_ret
 exact ⟨rfl,bel⟩
theorem turnOf_6 (w:World) :
  Calls SqN.prog 127 #[.int .i64 6] w fun e w'=>e=.returned (.func (.func (turnF 6)) #[] #[])/\Below w.heap.size w w':=by
 go_enter SqN.func127,Tryz.ntmps127
 go_wp2
 go_ret
 exact ⟨rfl,bel⟩
theorem turnOf_7 (w:World) :
  Calls SqN.prog 127 #[.int .i64 7] w fun e w'=>e=.returned (.func (.func (turnF 7)) #[] #[])/\Below w.heap.size w w':=by
 go_enter SqN.func127,Tryz.ntmps127
 go_wp2
 go_ret
 exact ⟨rfl,bel⟩
theorem turnOf_any (k:Int) (w:World) :
  Calls SqN.prog 127 #[.int .i64 k] w fun e w'=>e=.returned (.func (.func (turnF k)) #[] #[])/\Below w.heap.size w w':=by
 by_cases h:k < 0\/7 < k
 ·exact turnOf_none k h w
 ·rcases (show k=0\/k=1\/k=2\/k=3\/k=4\/k=5\/k=6\/k=7 by omega) with rfl | rfl | rfl | rfl | rfl | rfl | rfl | rfl
  ·exact turnOf_0 w
  ·exact turnOf_1 w
  ·exact turnOf_2 w
  ·exact turnOf_3 w
  ·exact turnOf_4 w
  ·exact turnOf_5 w
  ·exact turnOf_6 w
  ·exact turnOf_7 w
theorem turnOf_at (k:Int) (n:Nat) (h:turnF k=n) (w:World) :
  Calls SqN.prog 127 #[.int .i64 k] w fun e w'=>e=.returned (.func (.func n) #[] #[])/\Below w.heap.size w w':=by
 rw [<- h]
 exact turnOf_any k w
theorem straight_any (d:Int) (w:World) :
  Calls SqN.prog 135 #[.int .i64 d] w fun e w'=>e=.returned (.int .i64 d)/\w'=w:=by
 go_enter SqN.func135,Tryz.ntmps135
 go_wp2
 go_ret
 exact ⟨rfl,rfl⟩
theorem bySlash_any (d:Int) (h0:0<=d) (h3:d<=3) (w:World) :
  Calls SqN.prog 136 #[.int .i64 d] w fun e w'=>e=.returned (.int .i64 (slashD d))/\w'=w:=by
 rcases (show d=0\/d=1\/d=2\/d=3 by omega) with rfl | rfl | rfl | rfl
 all_goals
  go_enter SqN.func136,Tryz.ntmps136
  go_wp2
  go_ret
  exact ⟨rfl,rfl⟩
theorem byBack_any (d:Int) (h0:0<=d) (h3:d<=3) (w:World) :
  Calls SqN.prog 137 #[.int .i64 d] w fun e w'=>e=.returned (.int .i64 (3 - d))/\w'=w:=by
 rcases (show d=0\/d=1\/d=2\/d=3 by omega) with rfl | rfl | rfl | rfl
 all_goals
  go_enter SqN.func137,Tryz.ntmps137
  go_wp2
  go_ret
  exact ⟨rfl,rfl⟩
theorem implDirTurn_any (k d:Int) (w:World) :
  Calls SqN.prog 107 #[.int .i64 k,.int .i64 d] w fun e w'=>e=.returned (.int .i64 (turnD k d))/\Below w.heap.size w w':=by
 by_cases hd:d < 0\/3 < d
 ·rw [turnD_out k d hd]
  have hi:inB d 0 3=false:=by simp [inB]; omega
  clear hd
  go_enter SqN.func107,Tryz.ntmps107
  go_wp2_with fail
  refine (dirOk_any _ _).mono ?_
  rintro e w' ⟨rfl,rfl⟩
  go_wp2
  go_ret
  exact ⟨rfl,bel⟩
 ·have h0:0<=d:=by omega
  have h3:d<=3:=by omega
  have hi:inB d 0 3=true:=by simp [inB,h0,h3]
  rw [turnD_in k d h0 h3]
  by_cases h24:k=2\/k=4
  ·have ht:turnF k=136:=by unfold turnF; rw [if_pos h24]
   rw [if_pos h24]
   clear h24 hd
   go_enter SqN.func107,Tryz.ntmps107
   go_wp2_with fail
   refine (dirOk_any _ _).mono ?_
   rintro e w' ⟨rfl,rfl⟩
   go_wp2_with fail
   refine (turnOf_at k _ ht _).mono ?_
   rintro e w1 ⟨rfl,hb⟩
   go_wp2_with fail
   skip
   refine (bySlash_any d h0 h3 _).mono ?_
   rintro e w' ⟨rfl,rfl⟩
   go_wp2_with fail
   go_ret
   exact ⟨rfl,by first | exact hb | exact hb.drew⟩
  ·rw [if_neg h24]
   by_cases h35:k=3\/k=5
   ·have ht:turnF k=137:=by unfold turnF; rw [if_neg h24,if_pos h35]
    rw [if_pos h35]
    clear h24 h35 hd
    go_enter SqN.func107,Tryz.ntmps107
    go_wp2_with fail
    refine (dirOk_any _ _).mono ?_
    rintro e w' ⟨rfl,rfl⟩
    go_wp2_with fail
    refine (turnOf_at k _ ht _).mono ?_
    rintro e w1 ⟨rfl,hb⟩
    go_wp2_with fail
    skip
    refine (byBack_any d h0 h3 _).mono ?_
    rintro e w' ⟨rfl,rfl⟩
    go_wp2_with fail
    go_ret
    exact ⟨rfl,by first | exact hb | exact hb.drew⟩
   ·have ht:turnF k=135:=by unfold turnF; rw [if_neg h24,if_neg h35]
    rw [if_neg h35]
    clear h24 h35 hd
    go_enter SqN.func107,Tryz.ntmps107
    go_wp2_with fail
    refine (dirOk_any _ _).mono ?_
    rintro e w' ⟨rfl,rfl⟩
    go_wp2_with fail
    refine (turnOf_at k _ ht _).mono ?_
    rintro e w1 ⟨rfl,hb⟩
    go_wp2_with fail
    skip
    refine (straight_any d _).mono ?_
    rintro e w' ⟨rfl,rfl⟩
    go_wp2_with fail
    go_ret
    exact ⟨rfl,by first | exact hb | exact hb.drew⟩
end Sp.Sn
namespace Sp.Sn
open Go.RowKit
end Sp.Sn
namespace Sp.Sn
open Go.RowKit
theorem infoVisit:(SqN.prog.info? 108).map (fun i=>(i.zero,i.size,i.bytes))=some (some (.agg #[.int .i64 0,.int .i64 0,.int .i64 0]),3,24):=by kernel_rfl
theorem infoEnd:(SqN.prog.info? 62).map (fun i=>(i.zero,i.size,i.bytes))=some (some (.agg #[.int .i64 0,.int .i64 0,.int .i64 0]),3,24):=by kernel_rfl
end Sp.Sn
namespace Sp.Sn
open Go.RowKit
end Sp.Sn
namespace Sp.Sn
open Go.RowKit
end Sp.Sn
namespace Sp.Sn
open Go.RowKit
end Sp.Sn
namespace Sp.Sn
open Go.RowKit
end Sp.Sn
end Go.Proofs.YtdhopelplokehaaGreat
