/- Of the proof: NJa -/
import Derived.Test.YtdhopelplokehaaGreatDAc
import Derived.Test.YtdhopelplokehaaGreatDAm
set_option maxHeartbeats 400000
set_option linter.unusedVariables false
namespace Go.Proofs.YtdhopelplokehaaGreat
namespace Sp.Sn
open Go.RowKit
end Sp.Sn
namespace Sp.Sn
open Go.RowKit
theorem shine_free (w:World):Sem.run SqN.prog (method 305 165 (Value.agg #[]) "loop.example/lucarne/impl.mayShine") w=.ok (158,.agg #[]) w:=by kernel_rfl
theorem shine_wall (w:World):Sem.run SqN.prog (method 305 166 (Value.agg #[]) "loop.example/lucarne/impl.mayShine") w=.ok (158,.agg #[]) w:=by kernel_rfl
theorem shine_slash (w:World):Sem.run SqN.prog (method 305 167 (Value.agg #[]) "loop.example/lucarne/impl.mayShine") w=.ok (158,.agg #[]) w:=by kernel_rfl
theorem shine_back (w:World):Sem.run SqN.prog (method 305 168 (Value.agg #[]) "loop.example/lucarne/impl.mayShine") w=.ok (158,.agg #[]) w:=by kernel_rfl
theorem shine_glass (w:World):Sem.run SqN.prog (method 305 169 (Value.agg #[]) "loop.example/lucarne/impl.mayShine") w=.ok (158,.agg #[]) w:=by kernel_rfl
theorem shine_pane (w:World):Sem.run SqN.prog (method 305 170 (Value.agg #[]) "loop.example/lucarne/impl.mayShine") w=.ok (158,.agg #[]) w:=by kernel_rfl
theorem shine_dim (w:World):Sem.run SqN.prog (method 305 171 (Value.agg #[]) "loop.example/lucarne/impl.mayShine") w=.ok (158,.agg #[]) w:=by kernel_rfl
theorem shine_lamp (w:World):Sem.run SqN.prog (method 305 172 (Value.agg #[]) "loop.example/lucarne/impl.mayShine") w=.ok (166,.agg #[]) w:=by kernel_rfl
theorem implCellOk_free (l:Int) (w:World) :
  Calls SqN.prog 70 #[.agg #[.int .i64 0,.int .i64 l]] w fun e w'=>e=.returned (.bool (okC 0 l))/\Below w.heap.size w w':=by
 have hs:=shine_free
 go_enter SqN.func70,Tryz.ntmps70
 go_wp2
 go_ret
 exact ⟨by simp [okC]; rfl,bel⟩
theorem implCellOk_wall (l:Int) (w:World) :
  Calls SqN.prog 70 #[.agg #[.int .i64 1,.int .i64 l]] w fun e w'=>e=.returned (.bool (okC 1 l))/\Below w.heap.size w w':=by
 have hs:=shine_wall
 go_enter SqN.func70,Tryz.ntmps70
 go_wp2
 go_ret
 exact ⟨by simp [okC]; rfl,bel⟩
theorem implCellOk_slash (l:Int) (w:World) :
  Calls SqN.prog 70 #[.agg #[.int .i64 2,.int .i64 l]] w fun e w'=>e=.returned (.bool (okC 2 l))/\Below w.heap.size w w':=by
 have hs:=shine_slash
 go_enter SqN.func70,Tryz.ntmps70
 go_wp2
 go_ret
 exact ⟨by simp [okC]; rfl,bel⟩
theorem implCellOk_back (l:Int) (w:World) :
  Calls SqN.prog 70 #[.agg #[.int .i64 3,.int .i64 l]] w fun e w'=>e=.returned (.bool (okC 3 l))/\Below w.heap.size w w':=by
 have hs:=shine_back
 go_enter SqN.func70,Tryz.ntmps70
 go_wp2
 go_ret
 exact ⟨by simp [okC]; rfl,bel⟩
theorem implCellOk_glass (l:Int) (w:World) :
  Calls SqN.prog 70 #[.agg #[.int .i64 4,.int .i64 l]] w fun e w'=>e=.returned (.bool (okC 4 l))/\Below w.heap.size w w':=by
 have hs:=shine_glass
 go_enter SqN.func70,Tryz.ntmps70
 go_wp2
 go_ret
 exact ⟨by simp [okC]; rfl,bel⟩
theorem implCellOk_pane (l:Int) (w:World) :
  Calls SqN.prog 70 #[.agg #[.int .i64 5,.int .i64 l]] w fun e w'=>e=.returned (.bool (okC 5 l))/\Below w.heap.size w w':=by
 have hs:=shine_pane
 go_enter SqN.func70,Tryz.ntmps70
 go_wp2
 go_ret
 exact ⟨by simp [okC]; rfl,bel⟩
theorem implCellOk_dim (l:Int) (w:World) :
  Calls SqN.prog 70 #[.agg #[.int .i64 6,.int .i64 l]] w fun e w'=>e=.returned (.bool (okC 6 l))/\Below w.heap.size w w':=by
 have hs:=shine_dim
 go_enter SqN.func70,Tryz.ntmps70
 go_wp2
 go_ret
 exact ⟨by simp [okC]; rfl,bel⟩
theorem implCellOk_lamp (l:Int) (w:World) :
  Calls SqN.prog 70 #[.agg #[.int .i64 7,.int .i64 l]] w fun e w'=>e=.returned (.bool (okC 7 l))/\Below w.heap.size w w':=by
 have hs:=shine_lamp
 by_cases h1:1<=l
 ·by_cases h2:l<=9
  all_goals
   go_enter SqN.func70,Tryz.ntmps70
   go_wp2
   go_ret
   exact ⟨by simp [okC,h1,h2],bel⟩
 ·go_enter SqN.func70,Tryz.ntmps70
  go_wp2
  go_ret
  exact ⟨by simp [okC]; omega,bel⟩
theorem implCellOk_none (k l:Int) (h:k < 0\/7 < k) (w:World) :
  Calls SqN.prog 70 #[.agg #[.int .i64 k,.int .i64 l]] w fun e w'=>e=.returned (.bool (okC k l))/\Below w.heap.size w w':=by
 go_enter SqN.func70,Tryz.ntmps70
 go_wp2
 go_ret
 exact ⟨by rw [okC_none k l h]; rfl,bel⟩
theorem implCellOk_any (k l:Int) (w:World) :
  Calls SqN.prog 70 #[.agg #[.int .i64 k,.int .i64 l]] w fun e w'=>e=.returned (.bool (okC k l))/\Below w.heap.size w w':=by
 by_cases h:k < 0\/7 < k
 ·exact implCellOk_none k l h w
 ·rcases (show k=0\/k=1\/k=2\/k=3\/k=4\/k=5\/k=6\/k=7 by omega) with rfl | rfl | rfl | rfl | rfl | rfl | rfl | rfl
  ·exact implCellOk_free l w
  ·exact implCellOk_wall l w
  ·exact implCellOk_slash l w
  ·exact implCellOk_back l w
  ·exact implCellOk_glass l w
  ·exact implCellOk_pane l w
  ·exact implCellOk_dim l w
  ·exact implCellOk_lamp l w
end Sp.Sn
namespace Sp.Sn
open Go.RowKit
theorem implGridOk_any (wd:Int) (a:Option Addr) (cap:Nat) (cs:List (Int × Int)) (w:World) (h:CellsAt w a cs) (hm:cs.length<=4611686018427387904) :
  Calls SqN.prog 44 #[.agg #[.int .i64 wd,.slice a cs.length cap]] w fun e w'=>e=.returned (.bool (okG wd cs))/\Below w.heap.size w w':=by
 by_cases h1:1<=wd
 ·have hq0:0<=(cs.length:Int) / wd:=Int.ediv_nonneg (by omega) (by omega)
  have hq1:(cs.length:Int) / wd<=cs.length:=Int.ediv_le_self _ (by omega)
  by_cases h2:wd<=5
  ·by_cases h3:(cs.length:Int) % wd=0
   ·by_cases h4:1<=(cs.length:Int) / wd
    ·by_cases h5:(cs.length:Int) / wd<=5
     ·have hne:cs ≠ []:=by intro hx; subst hx; simp at h4
      have HS:Hid (sizeG wd cs.length=true):=by show sizeG wd cs.length=true; simp [sizeG,h1,h2,h3,h4,h5]
      rcases h with h | ⟨b,off,rfl,hbl,hcell⟩
      ·exact absurd h hne
      go_enter SqN.func44,Tryz.ntmps44
      go_wp2
      go_loopw [33] (fun i wr=>∃ k:Nat,k<=cs.length/\i=.int .i64 k/\((cs.take k).all fun c=>okC c.1 c.2)=true/\Below w.heap.size w wr) (fun i _=>cs.length - (intOf i).toNat)
      case atStart=>exact ⟨0,Nat.zero_le _,rfl,by simp,bel⟩
      case round =>
       obtain ⟨k,hk,rfl,hall,hb⟩:=hrel
       by_cases hlt:k < cs.length
       ·obtain ⟨hx,hy⟩:=hcell k hlt
        rw [<- hb.cell (p:=⟨b,_,none⟩) hbl] at hx hy
        have HA:Hid (((cs.take (k + 1)).all fun c=>okC c.1 c.2)=okC cs[k].1 cs[k].2):=by show _=_; rw [all_snoc cs k hlt,hall]; simp
        clear hall
        have hzr:=hb.size
        by_cases hok:okC cs[k].1 cs[k].2=true
        ·go_wp2_with fail
         refine (implCellOk_any _ _ _).mono ?_
         rintro e w2 ⟨rfl,hb2⟩
         go_wp2
         go_roundw
         case rel=>exact ⟨k + 1,by omega,by go_num,by rw [HA.out]; exact hok,bcall (hb.alloc hzr _) (by simp; omega) hb2⟩
         case measure=>simp [intOf]; omega
        ·have hok':okC cs[k].1 cs[k].2=false:=by simpa using hok
         clear hok
         go_wp2_with fail
         refine (implCellOk_any _ _ _).mono ?_
         rintro e w2 ⟨rfl,hb2⟩
         go_wp2
         go_ret
         exact ⟨by rw [okG_no wd cs k hlt hok']; rfl,bcall (hb.alloc hzr _) (by simp; omega) hb2⟩
       ·go_wp2
        go_ret
        exact ⟨by rw [okG_yes wd cs HS.out (by rw [List.take_of_length_le (by omega)] at hall; exact hall)]; rfl,hb⟩
     ·go_enter SqN.func44,Tryz.ntmps44
      go_wp2
      go_ret
      exact ⟨by rw [okG_size wd cs (by simp [sizeG]; omega)]; rfl,bel⟩
    ·go_enter SqN.func44,Tryz.ntmps44
     go_wp2
     go_ret
     exact ⟨by rw [okG_size wd cs (by simp [sizeG]; omega)]; rfl,bel⟩
   ·go_enter SqN.func44,Tryz.ntmps44
    go_wp2
    go_ret
    exact ⟨by rw [okG_size wd cs (by simp [sizeG]; omega)]; rfl,bel⟩
  ·go_enter SqN.func44,Tryz.ntmps44
   go_wp2
   go_ret
   exact ⟨by rw [okG_size wd cs (by simp [sizeG]; omega)]; rfl,bel⟩
 ·go_enter SqN.func44,Tryz.ntmps44
  go_wp2
  go_ret
  exact ⟨by rw [okG_size wd cs (by simp [sizeG]; omega)]; rfl,bel⟩
end Sp.Sn
namespace Sp.Sn
open Go.RowKit
end Sp.Sn
namespace Sp.Sn
open Go.RowKit
end Sp.Sn
namespace Sp.Sn
end Sp.Sn
namespace Sp.Sn
open Go.RowKit
theorem dirOk_any (d:Int) (w:World) :
  Calls SqN.prog 126 #[.int .i64 d] w fun e w'=>e=.returned (.bool (inB d 0 3))/\w'=w:=by
 by_cases h1:0<=d
 ·by_cases h2:d<=3
  all_goals
   go_enter SqN.func126,Tryz.ntmps126
   go_wp2
   go_ret
   exact ⟨by simp [inB,h1,h2],rfl⟩
 ·go_enter SqN.func126,Tryz.ntmps126
  go_wp2
  go_ret
  exact ⟨by simp [inB]; omega,rfl⟩
end Sp.Sn
namespace Sp.Sn
open Go.RowKit
theorem rowsI_any (W H:Nat) (a:Option Addr) (n cap:Nat) (w:World) (hW:1<=W) (hn:n<=1048576) (hH:n / W=H) :
  Calls SqN.prog 45 #[.agg #[.int .i64 (W:Int),.slice a n cap]] w fun e w'=>e=.returned (.int .i64 (H:Int))/\Below w.heap.size w w':=by
 have h0:(0:Int)<=(n:Int) / (W:Int):=Int.ediv_nonneg (by omega) (by omega)
 have h1:(n:Int) / (W:Int)<=n:=Int.ediv_le_self _ (by omega)
 have hw:(1:Int)<=(W:Int):=by omega
 have HH:Hid ((n:Int) / (W:Int)=(H:Int)):=by show _=_; rw [<- hH]; simp
 clear hH
 go_enter SqN.func45,Tryz.ntmps45
 go_wp2
 go_ret
 exact ⟨by rw [<- HH.out]; rfl,bel⟩
end Sp.Sn
namespace Sp.Sn
open Go.RowKit
end Sp.Sn
namespace Sp.Sn
open Go.RowKit
theorem placeOk_any (x wd:Int) (a:Option Addr) (n cap:Nat) (hm:n<=9223372036854775807) (w:World) :
  Calls SqN.prog 128 #[.agg #[.int .i64 wd,.slice a n cap],.int .i64 x] w fun e w'=>e=.returned (.bool (inP x n))/\Below w.heap.size w w':=by
 by_cases h1:0<=x
 ·by_cases h2:x < (n:Int)
  all_goals
   go_enter SqN.func128,Tryz.ntmps128
   go_wp2
   go_ret
   exact ⟨by simp [inP,h1,h2],bel⟩
 ·go_enter SqN.func128,Tryz.ntmps128
  go_wp2
  go_ret
  exact ⟨by simp [inP]; omega,bel⟩
end Sp.Sn
namespace Sp.Sn
open Go.RowKit
end Sp.Sn
end Go.Proofs.YtdhopelplokehaaGreat
