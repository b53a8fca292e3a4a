/- Part. -/
import Derived.WalkKit
import Derived.WalkLawsBesides
import Derived.Deep.Draws
import Derived.Deep.RegionHeld3
import Derived.Test.YtefakaeblcafmaaGreatNAf
set_option maxHeartbeats 2000000
set_option linter.unusedVariables false
namespace Go.Proofs.YtefakaeblcafmaaGreat
variable{c:Bool}{cs:List (Int × Int)}{B b cap g j o:Nat}{a:Option Addr}{u v:Value}{W w w' w1:World}
open Tryz
namespace Sp
variable{aLt:Nat->Func->Func}
open Go.RowKit
theorem zai{w2:World}(h:Below B w w1)(hB:B<=w1.heap.size)(h2:Below w1.heap.size w1 w2):Below B w w2 :=
 h.trans (h2.mono hB)
theorem zad(hb:Below W.heap.size W w1)(h:W.cell? ⟨b,o,none⟩=some v):w1.cell? ⟨b,o,none⟩=some v :=
 (hb.cell (World.block_lt_of_cell? W _ h)).trans h
theorem zal(hb:Below W.heap.size W w1)(h:W.cell? ⟨b,o,none⟩=some v)(hf:W.frozen? ⟨b,o,none⟩=c):w1.frozen? ⟨b,o,none⟩=c :=
 (hb.frozen (World.block_lt_of_cell? W _ h)).trans hf
theorem zdU(h:Below w.drew.heap.size w.drew w'):Below w.heap.size w w':=⟨h.os,h.tape,h.output,h.size,h.block⟩
theorem zev(hne:b≠g)(h:w.cell? ⟨b,o,none⟩=some v):(w.setCell ⟨g,j,none⟩ u).cell? ⟨b,o,none⟩=some v:=by
 rw[World.cell?_of_block (w:=w) (Below.heap_setCell w ⟨g,j,none⟩ u b hne)]
 exact h
theorem zkQ(hne:b≠g)(h:w.frozen? ⟨b,o,none⟩=c):(w.setCell ⟨g,j,none⟩ u).frozen? ⟨b,o,none⟩=c:=by
 rw[World.frozen?_of_block (w:=w) (Below.heap_setCell w ⟨g,j,none⟩ u b hne)]
 exact h
theorem zsz{k:IntKind}{a b:Int}(h:a=b):Value.int k a=Value.int k b:=by rw[h]
def okC(k l:Int):Bool:=if k=7 then decide (1<=l/\l<=9) else decide (0<=k/\k<=6/\l=0)
theorem zpv(k l:Int)(h:k<0\/7<k):okC k l=false:=by
 unfold okC
 rw[if_neg qg]
 simp
 omega
def inB(n a b:Int):Bool:=decide (a<=n/\n<=b)
theorem zbe(n a b:Int)(w:World) :
  Calls (SqG.prog aLt) 38 #[.int .i64 n,.int .i64 a,.int .i64 b] w fun e w'=>e=.returned (.bool (inB n a b))/\w'=w:=by
 by_cases h1:a<=n
 ·by_cases h2:n<=b
  ·go_enter (zfx func38),ntmps38
   go_wp2
   go_ret
   exact⟨by simp[inB,h1,h2],rfl⟩
  ·go_enter (zfx func38),ntmps38
   go_wp2
   go_ret
   exact⟨by simp[inB,h1,h2],rfl⟩
 ·go_enter (zfx func38),ntmps38
  go_wp2
  go_ret
  exact⟨by simp[inB];omega,rfl⟩
theorem zdw(k l:Int)(w:World) :
  Calls (SqG.prog aLt) 39 #[.agg #[.int .i64 k,.int .i64 l]] w fun e w'=>e=.returned (.bool (okC k l))/\Below w.heap.size w w':=by
 by_cases h7:k=7
 ·subst h7
  go_enter (zfx func39),ntmps39
  go_wp2_with (go_at_call 38;refine(zbe _ _ _ _).mono ?_;rintro e w' ⟨rfl,rfl⟩)
  go_ret
  exact⟨by simp[okC,inB],bel⟩
 ·by_cases h1:0<=k/\k<=6
  ·have hi:inB k 0 6=true:=by simp[inB,h1]
   by_cases hl:l=0
   all_goals
    go_enter (zfx func39),ntmps39
    go_wp2_with (go_at_call 38;refine(zbe _ _ _ _).mono ?_;rintro e w' ⟨rfl,rfl⟩)
    go_ret
    exact⟨by simp[okC,h7,h1,hl],bel⟩
  ·have hi:inB k 0 6=false:=by simp[inB];omega
   go_enter (zfx func39),ntmps39
   go_wp2_with (go_at_call 38;refine(zbe _ _ _ _).mono ?_;rintro e w' ⟨rfl,rfl⟩)
   go_ret
   exact⟨by simp[okC,h7];omega,bel⟩
theorem zlS(w:World):Sem.run (SqG.prog aLt) (method 301 171 (Value.agg #[]) "loop.example/lucarne/impl.mayShine") w=.ok (140,.agg #[]) w:=qh
theorem zlV(w:World):Sem.run (SqG.prog aLt) (method 301 172 (Value.agg #[]) "loop.example/lucarne/impl.mayShine") w=.ok (140,.agg #[]) w:=qh
theorem zjN(w:World):Sem.run (SqG.prog aLt) (method 301 173 (Value.agg #[]) "loop.example/lucarne/impl.mayShine") w=.ok (140,.agg #[]) w:=qh
theorem zlR(w:World):Sem.run (SqG.prog aLt) (method 301 174 (Value.agg #[]) "loop.example/lucarne/impl.mayShine") w=.ok (140,.agg #[]) w:=qh
theorem zjM(w:World):Sem.run (SqG.prog aLt) (method 301 175 (Value.agg #[]) "loop.example/lucarne/impl.mayShine") w=.ok (140,.agg #[]) w:=qh
theorem zlU(w:World):Sem.run (SqG.prog aLt) (method 301 176 (Value.agg #[]) "loop.example/lucarne/impl.mayShine") w=.ok (140,.agg #[]) w:=qh
theorem znX(w:World):Sem.run (SqG.prog aLt) (method 301 177 (Value.agg #[]) "loop.example/lucarne/impl.mayShine") w=.ok (140,.agg #[]) w:=qh
theorem zlT(w:World):Sem.run (SqG.prog aLt) (method 301 178 (Value.agg #[]) "loop.example/lucarne/impl.mayShine") w=.ok (148,.agg #[]) w:=qh
theorem zfs(l:Int)(w:World) :
  Calls (SqG.prog aLt) 57 #[.agg #[.int .i64 0,.int .i64 l]] w fun e w'=>e=.returned (.bool (okC 0 l))/\Below w.heap.size w w':=by
 have hs:=zlS (aLt:=aLt)
 go_enter (zfx func57),ntmps57
 go_wp2_with (first|(go_at_call 84;go_enter (zfx func84),ntmps84)|(go_at_call 140;go_enter (zfx func140),ntmps140)|fail)
 go_ret
 exact⟨by simp[okC];rfl,bel⟩
theorem zfw(l:Int)(w:World) :
  Calls (SqG.prog aLt) 57 #[.agg #[.int .i64 1,.int .i64 l]] w fun e w'=>e=.returned (.bool (okC 1 l))/\Below w.heap.size w w':=by
 have hs:=zlV (aLt:=aLt)
 go_enter (zfx func57),ntmps57
 go_wp2_with (first|(go_at_call 84;go_enter (zfx func84),ntmps84)|(go_at_call 140;go_enter (zfx func140),ntmps140)|fail)
 go_ret
 exact⟨by simp[okC];rfl,bel⟩
theorem zeV(l:Int)(w:World) :
  Calls (SqG.prog aLt) 57 #[.agg #[.int .i64 2,.int .i64 l]] w fun e w'=>e=.returned (.bool (okC 2 l))/\Below w.heap.size w w':=by
 have hs:=zjN (aLt:=aLt)
 go_enter (zfx func57),ntmps57
 go_wp2_with (first|(go_at_call 84;go_enter (zfx func84),ntmps84)|(go_at_call 140;go_enter (zfx func140),ntmps140)|fail)
 go_ret
 exact⟨by simp[okC];rfl,bel⟩
theorem zfr(l:Int)(w:World) :
  Calls (SqG.prog aLt) 57 #[.agg #[.int .i64 3,.int .i64 l]] w fun e w'=>e=.returned (.bool (okC 3 l))/\Below w.heap.size w w':=by
 have hs:=zlR (aLt:=aLt)
 go_enter (zfx func57),ntmps57
 go_wp2_with (first|(go_at_call 84;go_enter (zfx func84),ntmps84)|(go_at_call 140;go_enter (zfx func140),ntmps140)|fail)
 go_ret
 exact⟨by simp[okC];rfl,bel⟩
theorem zeU(l:Int)(w:World) :
  Calls (SqG.prog aLt) 57 #[.agg #[.int .i64 4,.int .i64 l]] w fun e w'=>e=.returned (.bool (okC 4 l))/\Below w.heap.size w w':=by
 have hs:=zjM (aLt:=aLt)
 go_enter (zfx func57),ntmps57
 go_wp2_with (first|(go_at_call 84;go_enter (zfx func84),ntmps84)|(go_at_call 140;go_enter (zfx func140),ntmps140)|fail)
 go_ret
 exact⟨by simp[okC];rfl,bel⟩
theorem zfv(l:Int)(w:World) :
  Calls (SqG.prog aLt) 57 #[.agg #[.int .i64 5,.int .i64 l]] w fun e w'=>e=.returned (.bool (okC 5 l))/\Below w.heap.size w w':=by
 have hs:=zlU (aLt:=aLt)
 go_enter (zfx func57),ntmps57
 go_wp2_with (first|(go_at_call 84;go_enter (zfx func84),ntmps84)|(go_at_call 140;go_enter (zfx func140),ntmps140)|fail)
 go_ret
 exact⟨by simp[okC];rfl,bel⟩
theorem zgr(l:Int)(w:World) :
  Calls (SqG.prog aLt) 57 #[.agg #[.int .i64 6,.int .i64 l]] w fun e w'=>e=.returned (.bool (okC 6 l))/\Below w.heap.size w w':=by
 have hs:=znX (aLt:=aLt)
 go_enter (zfx func57),ntmps57
 go_wp2_with (first|(go_at_call 84;go_enter (zfx func84),ntmps84)|(go_at_call 140;go_enter (zfx func140),ntmps140)|fail)
 go_ret
 exact⟨by simp[okC];rfl,bel⟩
theorem zft(l:Int)(w:World) :
  Calls (SqG.prog aLt) 57 #[.agg #[.int .i64 7,.int .i64 l]] w fun e w'=>e=.returned (.bool (okC 7 l))/\Below w.heap.size w w':=by
 have hs:=zlT (aLt:=aLt)
 by_cases h1:1<=l
 ·by_cases h2:l<=9
  all_goals
   go_enter (zfx func57),ntmps57
   go_wp2_with (first|(go_at_call 84;go_enter (zfx func84),ntmps84)|(go_at_call 148;go_enter (zfx func148),ntmps148)|fail)
   go_ret
   exact⟨by simp[okC,h1,h2],bel⟩
 ·go_enter (zfx func57),ntmps57
  go_wp2_with (first|(go_at_call 84;go_enter (zfx func84),ntmps84)|(go_at_call 148;go_enter (zfx func148),ntmps148)|fail)
  go_ret
  exact⟨by simp[okC];omega,bel⟩
theorem zfu(k l:Int)(h:k<0\/7<k)(w:World) :
  Calls (SqG.prog aLt) 57 #[.agg #[.int .i64 k,.int .i64 l]] w fun e w'=>e=.returned (.bool (okC k l))/\Below w.heap.size w w':=by
 go_enter (zfx func57),ntmps57
 go_wp2_with (first|(go_at_call 84;go_enter (zfx func84),ntmps84)|fail)
 go_ret
 exact⟨by rw[zpv k l h];rfl,bel⟩
theorem zdv(k l:Int)(w:World) :
  Calls (SqG.prog aLt) 57 #[.agg #[.int .i64 k,.int .i64 l]] w fun e w'=>e=.returned (.bool (okC k l))/\Below w.heap.size w w':=by
 by_cases h:k<0\/7<k
 ·exact zfu k l h w
 ·rcases (show k=0\/k=1\/k=2\/k=3\/k=4\/k=5\/k=6\/k=7 by omega) with rfl|rfl|rfl|rfl|rfl|rfl|rfl|rfl
  ·exact zfs l w
  ·exact zfw l w
  ·exact zeV l w
  ·exact zfr l w
  ·exact zeU l w
  ·exact zfv l w
  ·exact zgr l w
  ·exact zft l w
def zaf(w:World)(a:Option Addr)(cs:List (Int × Int)):Prop :=
 cs=[]\/∃ b off,a=some ⟨b,off,none⟩/\b<w.heap.size/\∀ i,i<cs.length ->
  w.cell? ⟨b,off+i * 2,none⟩=some (.int .i64 (cs.getD i (0,0)).1)/\w.cell? ⟨b,off+i * 2+1,none⟩=some (.int .i64 (cs.getD i (0,0)).2)
def zb0(wd:Int)(n:Int):Bool:=decide (1<=wd/\wd<=5/\n % wd=0/\1<=n / wd/\n / wd<=5)
def okG(wd:Int)(cs:List (Int × Int)):Bool:=zb0 wd cs.length && cs.all fun c=>okC c.1 c.2
theorem zkc(cs:List (Int × Int))(k:Nat)(h:k<cs.length)(p:Int × Int->Bool):(cs.take (k+1)).all p=((cs.take k).all p && p cs[k]):=by
 rw[List.take_succ_eq_append_getElem h,List.all_append]
 simp only[List.all_cons,List.all_nil,Bool.and_true]
theorem zb7(wd:Int)(cs:List (Int × Int))(h:zb0 wd cs.length=false):okG wd cs=false:=by simp[okG,h]
theorem zqB(wd:Int)(cs:List (Int × Int))(k:Nat)(h:k<cs.length)(hk:okC cs[k].1 cs[k].2=false):okG wd cs=false:=by
 have:(cs.all fun c=>okC c.1 c.2)=false:=by
  rw[List.all_eq_false]
  exact⟨cs[k],List.getElem_mem _,by simp[hk]⟩
 simp[okG,this]
theorem zjC(wd:Int)(cs:List (Int × Int))(h:zb0 wd cs.length=true)(hk:(cs.all fun c=>okC c.1 c.2)=true):okG wd cs=true:=by simp only[okG,h,hk,Bool.and_self]
theorem zav(wd:Int)(a:Option Addr)(cap:Nat)(cs:List (Int × Int))(w:World)(h:zaf w a cs)(hm:cs.length<=4611686018427387904) :
  Calls (SqG.prog aLt) 34 #[.agg #[.int .i64 wd,.slice a cs.length cap]] w fun e w'=>e=.returned (.bool (okG wd cs))/\Below w.heap.size w w':=by
 by_cases h1:1<=wd
 ·have hq0:0<=(cs.length:Int) / wd:=Int.ediv_nonneg qg qg
  have hq1:(cs.length:Int) / wd<=cs.length:=Int.ediv_le_self _ qg
  by_cases h2:wd<=5
  ·by_cases h3:(cs.length:Int) % wd=0
   ·by_cases h4:1<=(cs.length:Int) / wd
    ·by_cases h5:(cs.length:Int) / wd<=5
     ·have hne:cs≠[]:=by intro hx;subst hx;simp at h4
      have HS:Hid (zb0 wd cs.length=true):=by show zb0 wd cs.length=true;simp[zb0,h1,h2,h3,h4,h5]
      rcases h with h|⟨b,off,rfl,hbl,hcell⟩
      ·exact absurd h hne
      go_enter (zfx func34),ntmps34
      go_wp2_with (first|(go_at_call 56;go_enter (zfx func56),ntmps56)|fail)
      go_loopw [33] (fun i wr=>∃ k:Nat,k<=cs.length/\i=.int .i64 k/\((cs.take k).all fun c=>okC c.1 c.2)=true/\Below w.heap.size w wr) (fun i _=>cs.length - (intOf i).toNat)
      case atStart=>exact⟨0,Nat.zero_le _,rfl,qk,bel⟩
      case round =>
       obtain⟨k,hk,rfl,hall,hb⟩:=hrel
       by_cases hlt:k<cs.length
       ·obtain⟨hx,hy⟩:=hcell k hlt
        rw[<- hb.cell (p:=⟨b,_,none⟩) hbl] at hx hy
        have HA:Hid (((cs.take (k+1)).all fun c=>okC c.1 c.2)=okC cs[k].1 cs[k].2):=by show _=_;rw[zkc cs k hlt,hall];simp
        clear hall
        have hzr:=hb.size
        by_cases hok:okC cs[k].1 cs[k].2=true
        ·go_wp2_with fail
         refine(zdv _ _ _).mono ?_
         rintro e w2 ⟨rfl,hb2⟩
         go_wp2_with (first|(go_at_call 56;go_enter (zfx func56),ntmps56)|fail)
         go_roundw
         case rel=>exact⟨k+1,qg,by go_num,by rw[HA.out];exact hok,zai (hb.alloc hzr _) ql hb2⟩
         case measure=>exact qe
        ·have hok':okC cs[k].1 cs[k].2=false:=by simpa using hok
         clear hok
         go_wp2_with fail
         refine(zdv _ _ _).mono ?_
         rintro e w2 ⟨rfl,hb2⟩
         go_wp2_with (first|(go_at_call 56;go_enter (zfx func56),ntmps56)|fail)
         go_ret
         exact⟨by rw[zqB wd cs k hlt hok'];rfl,zai (hb.alloc hzr _) ql hb2⟩
       ·go_wp2_with (first|(go_at_call 56;go_enter (zfx func56),ntmps56)|fail)
        go_ret
        exact⟨by rw[zjC wd cs HS.out (by rw[List.take_of_length_le qg] at hall;exact hall)];rfl,hb⟩
     ·go_enter (zfx func34),ntmps34
      go_wp2_with (first|(go_at_call 56;go_enter (zfx func56),ntmps56)|fail)
      go_ret
      exact⟨by rw[zb7 wd cs (by simp[zb0];omega)];rfl,bel⟩
    ·go_enter (zfx func34),ntmps34
     go_wp2_with (first|(go_at_call 56;go_enter (zfx func56),ntmps56)|fail)
     go_ret
     exact⟨by rw[zb7 wd cs (by simp[zb0];omega)];rfl,bel⟩
   ·go_enter (zfx func34),ntmps34
    go_wp2_with (first|(go_at_call 56;go_enter (zfx func56),ntmps56)|fail)
    go_ret
    exact⟨by rw[zb7 wd cs (by simp[zb0];omega)];rfl,bel⟩
  ·go_enter (zfx func34),ntmps34
   go_wp2_with (first|(go_at_call 56;go_enter (zfx func56),ntmps56)|fail)
   go_ret
   exact⟨by rw[zb7 wd cs (by simp[zb0];omega)];rfl,bel⟩
 ·go_enter (zfx func34),ntmps34
  go_wp2_with (first|(go_at_call 56;go_enter (zfx func56),ntmps56)|fail)
  go_ret
  exact⟨by rw[zb7 wd cs (by simp[zb0];omega)];rfl,bel⟩
theorem zbA(wd:Int)(a:Option Addr)(cap:Nat)(cs:List (Int × Int))(w:World)(h:zaf w a cs)(hm:cs.length<=4611686018427387904) :
  Calls (SqG.prog aLt) 26 #[.agg #[.int .i64 wd,.slice a cs.length cap]] w fun e w'=>e=.returned (.bool (okG wd cs))/\Below w.heap.size w w':=by
 by_cases h1:1<=wd/\wd<=5
 ·obtain⟨h1,h2⟩:=h1
  have hq0:0<=(cs.length:Int) / wd:=Int.ediv_nonneg qg qg
  have hq1:(cs.length:Int) / wd<=cs.length:=Int.ediv_le_self _ qg
  have hi1:inB wd 1 5=true:=by simp[inB,h1,h2]
  by_cases h3:(cs.length:Int) % wd=0
  ·by_cases h4:1<=(cs.length:Int) / wd/\(cs.length:Int) / wd<=5
   ·obtain⟨h4,h5⟩:=h4
    have hi2:inB ((cs.length:Int) / wd) 1 5=true:=by simp[inB,h4,h5]
    have hne:cs≠[]:=by intro hx;subst hx;simp at h4
    have HS:Hid (zb0 wd cs.length=true):=by show zb0 wd cs.length=true;simp[zb0,h1,h2,h3,h4,h5]
    rcases h with h|⟨b,off,rfl,hbl,hcell⟩
    ·exact absurd h hne
    go_enter (zfx func26),ntmps26
    go_wp2_with (go_at_call 38;refine(zbe _ _ _ _).mono ?_;rintro e w' ⟨rfl,rfl⟩)
    go_loopw [3] (fun i wr=>∃ k:Nat,k<=cs.length/\i=.int .i64 k/\((cs.take k).all fun c=>okC c.1 c.2)=true/\Below w.heap.size w wr/\w.heap.size<wr.heap.size/\wr.cell? ⟨w.heap.size,1,none⟩=some (.slice (some ⟨b,off,none⟩) cs.length cap)) (fun i _=>cs.length - (intOf i).toNat)
    case atStart=>exact⟨0,Nat.zero_le _,rfl,qk,bel,qk,qk⟩
    case round =>
     obtain⟨k,hk,rfl,hall,hb,hzr,hbox⟩:=hrel
     by_cases hlt:k<cs.length
     ·obtain⟨hx,hy⟩:=hcell k hlt
      rw[<- hb.cell (p:=⟨b,_,none⟩) hbl] at hx hy
      have HA:Hid (((cs.take (k+1)).all fun c=>okC c.1 c.2)=okC cs[k].1 cs[k].2):=by show _=_;rw[zkc cs k hlt,hall];simp
      clear hall
      by_cases hok:okC cs[k].1 cs[k].2=true
      ·go_wp2_with fail
       refine(zdw _ _ _).mono ?_
       rintro e w2 ⟨rfl,hb2⟩
       have hz2:=hb2.size
       go_wp2
       go_roundw
       case rel=>exact⟨k+1,qg,by go_num,by rw[HA.out];exact hok,zai hb qg hb2,qg,by rw[hb2.cell (p:=⟨w.heap.size,1,none⟩) hzr];exact hbox⟩
       case measure=>exact qe
      ·have hok':okC cs[k].1 cs[k].2=false:=by simpa using hok
       clear hok
       go_wp2_with fail
       refine(zdw _ _ _).mono ?_
       rintro e w2 ⟨rfl,hb2⟩
       go_wp2
       go_ret
       exact⟨by rw[zqB wd cs k hlt hok'];rfl,zai hb qg hb2⟩
     ·go_wp2
      go_ret
      exact⟨by rw[zjC wd cs HS.out (by rw[List.take_of_length_le qg] at hall;exact hall)];rfl,hb⟩
   ·have hi2:inB ((cs.length:Int) / wd) 1 5=false:=by simp[inB];omega
    go_enter (zfx func26),ntmps26
    go_wp2_with (go_at_call 38;refine(zbe _ _ _ _).mono ?_;rintro e w' ⟨rfl,rfl⟩)
    go_ret
    exact⟨by rw[zb7 wd cs (by simp[zb0];omega)];rfl,bel⟩
  ·go_enter (zfx func26),ntmps26
   go_wp2_with (go_at_call 38;refine(zbe _ _ _ _).mono ?_;rintro e w' ⟨rfl,rfl⟩)
   go_ret
   exact⟨by rw[zb7 wd cs (by simp[zb0];omega)];rfl,bel⟩
 ·have hi1:inB wd 1 5=false:=by simp[inB];omega
  go_enter (zfx func26),ntmps26
  go_wp2_with (go_at_call 38;refine(zbe _ _ _ _).mono ?_;rintro e w' ⟨rfl,rfl⟩)
  go_ret
  exact⟨by rw[zb7 wd cs (by simp[zb0];omega)];rfl,bel⟩
theorem ze3:((SqG.prog aLt).info? 60).map (fun i=>(i.zero,i.size,i.bytes))=some (some (.agg #[.int .i64 0,.int .i64 0]),2,16):=qh
def flat(cs:List (Int × Int)):List Value:=cs.flatMap fun c=>[.int .i64 c.1,.int .i64 c.2]
def Own(w:World)(B:Nat)(v:Value)(cs:List (Int × Int)):Prop:=w.ownsRow B 60 2 v cs.length (flat cs)
theorem ze2(cs:List (Int × Int)):(flat cs).length=cs.length * 2:=by
 induction cs with
 | nil=>rfl
 | cons c r ih=>simp only[flat,List.flatMap_cons,List.length_append,List.length_cons,List.length_nil] at ih ⊢;omega
theorem zfo(c:Int × Int)(r:List (Int × Int)):flat (c::r)=.int .i64 c.1::.int .i64 c.2::flat r:=rfl
theorem zfn(a b:List (Int × Int)):flat (a++b)=flat a++flat b:=by simp[flat]
theorem zhc(cs:List (Int × Int)):∀ i,i<cs.length->(flat cs)[i * 2]?=some (.int .i64 (cs.getD i (0,0)).1)/\(flat cs)[i * 2+1]?=some (.int .i64 (cs.getD i (0,0)).2):=by
 induction cs with
 | nil=>intro i h;simp at h
 | cons c r ih =>
  intro i h
  cases i with
  | zero=>exact⟨rfl,rfl⟩
  | succ i =>
   have:=ih i (by simpa using h)
   rw[zfo]
   refine⟨?_,?_⟩
   ·rw[show (i+1) * 2=i * 2+1+1 by omega];simpa using this.1
   ·rw[show (i+1) * 2+1=i * 2+1+1+1 by omega];simpa using this.2
theorem zo8(cs:List (Int × Int)):∀ i (x y:Int),i<cs.length->((flat cs).set (i * 2) (.int .i64 x)).set (i * 2+1) (.int .i64 y)=flat (cs.set i (x,y)):=by
 induction cs with
 | nil=>intro i x y h;simp at h
 | cons c r ih =>
  intro i x y h
  cases i with
  | zero=>rfl
  | succ i =>
   have:=ih i x y (by simpa using h)
   rw[zfo,show (i+1) * 2=i * 2+1+1 by omega]
   simp only[List.set_cons_succ,zfo]
   rw[this]
theorem Own.below(h:Own w B v cs)(hb:Below w.heap.size w w'):Own w' B v cs:=by
 obtain⟨h1,h2⟩:=h
 refine⟨h1,?_⟩
 rcases h2 with h2|⟨g,cap,cur,hv,hg,hh,r⟩
 ·exact Or.inl h2
 ·exact Or.inr ⟨g,cap,cur,hv,hg,by rw[hb.block g (gei hh).1];exact hh,r⟩
theorem Own.slice(h:Own w B v cs):∃ a cap,v=.slice a cs.length cap/\zaf w a cs:=by
 obtain⟨h1,h2⟩:=h
 rcases h2 with ⟨rfl,h2⟩|⟨g,cap,cur,rfl,hg,hh,r⟩
 ·exact⟨none,0,by rw[h2],Or.inl (List.length_eq_zero_iff.1 h2)⟩
 ·have hO:w.ownsRow B 60 2 (.slice (some ⟨g,0,none⟩) cs.length cap) cs.length (flat cs):=⟨h1,Or.inr ⟨g,cap,cur,rfl,hg,hh,r⟩⟩
  refine⟨_,cap,rfl,Or.inr ⟨g,0,rfl,(gei hh).1,fun i hi=>?_⟩⟩
  have:=zhc cs i hi
  rw[hO.cellAt _ qg,hO.cellAt _ qg,Nat.zero_add]
  exact this
theorem Own.lt{n:Nat}(h:Own w B (.slice (some ⟨g,0,none⟩) n cap) cs):B<=g/\g<w.heap.size :=
 World.ownsRow.lt h g rfl
theorem Own.cell{n:Nat}(h:Own w B (.slice (some ⟨g,0,none⟩) n cap) cs)(hn:cs.length=n)(i:Nat)(hi:i<n) :
  w.cell? ⟨g,i * 2,none⟩=some (.int .i64 (cs.getD i (0,0)).1)/\w.cell? ⟨g,i * 2+1,none⟩=some (.int .i64 (cs.getD i (0,0)).2)/\w.frozen? ⟨g,i * 2,none⟩=false/\w.frozen? ⟨g,i * 2+1,none⟩=false:=by
 subst hn
 have hO:w.ownsRow B 60 2 (.slice (some ⟨g,0,none⟩) cs.length cap) cs.length (flat cs):=h
 have:=zhc cs i hi
 exact⟨by rw[hO.cellAt _ qg];exact this.1,by rw[hO.cellAt _ qg];exact this.2,hO.frozenAt _,hO.frozenAt _⟩
theorem Own.set{n:Nat}(h:Own w B (.slice (some ⟨g,0,none⟩) n cap) cs)(hn:cs.length=n)(i:Nat)(x y:Int)(hi:i<n) :
  Own ((w.setCell ⟨g,i * 2,none⟩ (.int .i64 x)).setCell ⟨g,i * 2+1,none⟩ (.int .i64 y)) B (.slice (some ⟨g,0,none⟩) n cap) (cs.set i (x,y)):=by
 subst hn
 have hO:w.ownsRow B 60 2 (.slice (some ⟨g,0,none⟩) cs.length cap) cs.length (flat cs):=h
 have h2:=((hO.stored (i * 2) (.int .i64 x)).1.stored (i * 2+1) (.int .i64 y)).1
 rw[zo8 cs i x y hi] at h2
 unfold Own
 rw[List.length_set]
 exact h2
theorem Own.alloc(h:Own w B v cs)(o:Obj):Own (w.alloc o) B v cs:=World.ownsRow.alloc h o
theorem Own.drew(h:Own w B v cs):Own w.drew B v cs:=h
theorem Own.mono{B':Nat}(h:Own w B v cs)(hB:B'<=B):Own w B' v cs:=by
 obtain⟨h1,h2⟩:=h
 refine⟨h1,?_⟩
 rcases h2 with h2|⟨g,cap,cur,hv,hg,r⟩
 ·exact Or.inl h2
 ·exact Or.inr ⟨g,cap,cur,hv,qg,r⟩
theorem zaf.below(h:zaf w a cs)(hb:Below w.heap.size w w'):zaf w' a cs:=by
 rcases h with h|⟨b,off,rfl,hbl,hc⟩
 ·exact Or.inl h
 ·refine Or.inr ⟨b,off,rfl,nll hbl hb.size,fun i hi=>?_⟩
  rw[hb.cell (p:=⟨b,_,none⟩) hbl,hb.cell (p:=⟨b,_,none⟩) hbl]
  exact hc i hi
end Sp
namespace Sp
variable{aLt:Nat->Func->Func}
theorem zfG(wd:Int)(cs:List (Int × Int))(h:okG wd cs=true):∃ W H:Nat,wd=W/\1<=W/\W<=5/\1<=H/\H<=5/\cs.length=W * H/\cs.length / W=H/\(cs.length:Int) / wd=H:=by
 simp only[okG,zb0,Bool.and_eq_true,decide_eq_true_eq] at h
 obtain⟨⟨h1,h2,h3,h4,h5⟩,_⟩:=h
 obtain⟨W,rfl⟩:=Int.eq_ofNat_of_zero_le (show 0<=wd by omega)
 refine⟨W,cs.length / W,rfl,qg,qg,?_,?_,?_,rfl,qk⟩
 all_goals
  rcases (show W=1\/W=2\/W=3\/W=4\/W=5 by omega) with rfl|rfl|rfl|rfl|rfl <;> omega
theorem zpw(wd:Int)(cs:List (Int × Int))(h:okG wd cs=true)(k:Nat)(hk:k<cs.length):okC cs[k].1 cs[k].2=true:=by
 simp only[okG,Bool.and_eq_true,List.all_eq_true] at h
 exact h.2 cs[k] (List.getElem_mem hk)
end Sp
namespace Sp
variable{aLt:Nat->Func->Func}
open Go.RowKit
theorem zcl(d:Int)(w:World) :
  Calls (SqG.prog aLt) 75 #[.int .i64 d] w fun e w'=>e=.returned (.bool (inB d 0 3))/\w'=w:=by
 by_cases h1:0<=d
 ·by_cases h2:d<=3
  all_goals
   go_enter (zfx func75),ntmps75
   go_wp2
   go_ret
   exact⟨by simp[inB,h1,h2],rfl⟩
 ·go_enter (zfx func75),ntmps75
  go_wp2
  go_ret
  exact⟨by simp[inB];omega,rfl⟩
theorem zc1(W H:Nat)(a:Option Addr)(n cap:Nat)(w:World)(hW:1<=W)(hn:n<=1048576)(hH:n / W=H) :
  Calls (SqG.prog aLt) 56 #[.agg #[.int .i64 (W:Int),.slice a n cap]] w fun e w'=>e=.returned (.int .i64 (H:Int))/\Below w.heap.size w w':=by
 have h0:(0:Int)<=(n:Int) / (W:Int):=Int.ediv_nonneg qg qg
 have h1:(n:Int) / (W:Int)<=n:=Int.ediv_le_self _ qg
 have hw:(1:Int)<=(W:Int):=qg
 have HH:Hid ((n:Int) / (W:Int)=(H:Int)):=by show _=_;rw[<- hH];simp
 clear hH
 go_enter (zfx func56),ntmps56
 go_wp2
 go_ret
 exact⟨by rw[<- HH.out];rfl,bel⟩
theorem zfM(W H:Nat)(a:Option Addr)(n cap:Nat)(w:World)(hW:1<=W)(hn:n<=1048576)(hH:n / W=H) :
  Calls (SqG.prog aLt) 40 #[.agg #[.int .i64 (W:Int),.slice a n cap]] w fun e w'=>e=.returned (.int .i64 (H:Int))/\Below w.heap.size w w':=by
 have h0:(0:Int)<=(n:Int) / (W:Int):=Int.ediv_nonneg qg qg
 have h1:(n:Int) / (W:Int)<=n:=Int.ediv_le_self _ qg
 have hw:(1:Int)<=(W:Int):=qg
 have HH:Hid ((n:Int) / (W:Int)=(H:Int)):=by show _=_;rw[<- hH];simp
 clear hH
 go_enter (zfx func40),ntmps40
 go_wp2
 go_ret
 exact⟨by rw[<- HH.out];rfl,bel⟩
def inP(x:Int)(n:Nat):Bool:=decide (0<=x/\x<n)
theorem zfJ(x wd:Int)(a:Option Addr)(n cap:Nat)(hm:n<=9223372036854775807)(w:World) :
  Calls (SqG.prog aLt) 77 #[.agg #[.int .i64 wd,.slice a n cap],.int .i64 x] w fun e w'=>e=.returned (.bool (inP x n))/\Below w.heap.size w w':=by
 by_cases h1:0<=x
 ·by_cases h2:x<(n:Int)
  all_goals
   go_enter (zfx func77),ntmps77
   go_wp2
   go_ret
   exact⟨by simp[inP,h1,h2],bel⟩
 ·go_enter (zfx func77),ntmps77
  go_wp2
  go_ret
  exact⟨by simp[inP];omega,bel⟩
theorem zaf.set(h:zaf w a cs){bb:Nat}(hne:∀ b off,a=some ⟨b,off,none⟩->b≠bb)(u:Value):zaf (w.setCell ⟨bb,j,none⟩ u) a cs:=by
 rcases h with h|⟨b,off,rfl,hbl,hc⟩
 ·exact Or.inl h
 ·refine Or.inr ⟨b,off,rfl,by simpa [World.setCell] using hbl,fun i hi=>?_⟩
  have:=hne b off rfl
  exact⟨zev this (hc i hi).1,zev this (hc i hi).2⟩
def zds(W H k:Int):Int × Int :=
 if k<W then (k,2) else if k - W<H then ((k - W) * W+W - 1,3) else if k - W - H<W then (W * H - 1 - (k - W - H),0) else (W * H - 1 - W+1 - (k - W - H - W) * W,1)
def ofN(W H x d:Int):Nat->Int
 | 0=>-1
 | n+1=>if ofN W H x d n≠-1 then ofN W H x d n else if (zds W H n).1=x/\((zds W H n).2+2) % 4=d then (n:Int) else -1
theorem zgF(W H:Nat)(a:Option Addr)(n cap:Nat)(w:World)(hW:1<=W/\W<=5)(hH5:H<=5)(hn:n<=1048576)(hH:n / W=H) :
  Calls (SqG.prog aLt) 27 #[.agg #[.int .i64 (W:Int),.slice a n cap]] w fun e w'=>e=.returned (.int .i64 (2 * ((W:Int)+(H:Int))))/\Below w.heap.size w w':=by
 have HH:Hid (n / W=H):=hH
 have w1:IntKind.i64.wrap ((W:Int)+(H:Int))=(W:Int)+(H:Int):=IntWalk.i64_in _ qg
 have w2:IntKind.i64.wrap (2 * ((W:Int)+(H:Int)))=2 * ((W:Int)+(H:Int)):=IntWalk.i64_in _ qg
 have hb0:Below w.heap.size w (w.alloc (.cells #[.int .i64 (W:Int),.slice a n cap] 25)):=bel
 have g0:(w.alloc (.cells #[.int .i64 (W:Int),.slice a n cap] 25)).cell? ⟨w.heap.size,0,none⟩=some (.int .i64 (W:Int)):=qj
 have g1:(w.alloc (.cells #[.int .i64 (W:Int),.slice a n cap] 25)).cell? ⟨w.heap.size,1,none⟩=some (.slice a n cap):=qj
 clear hH
 go_enter (zfx func27),ntmps27
 go_wp2
 obtain⟨w0,hw0⟩:∃ w0,w0=w.alloc (.cells #[.int .i64 (W:Int),.slice a n cap] 25):=⟨_,rfl⟩
 rw[<- hw0] at hb0 g0 g1 ⊢
 clear hw0
 go_region_held3 (fun w'=>w'.cell? ⟨w.heap.size,0,none⟩=some (.int .i64 (W:Int))/\w'.cell? ⟨w.heap.size,1,none⟩=some (.slice a n cap))
  (first
   | with_reducible exact⟨zad hb6 g0,zad hb6 g1⟩
   | go_keep)
  (first
   | (go_at_call 40;refine(zfM W H _ _ _ _ hW.1 hn HH.out).mono ?_;rintro e w6 ⟨rfl,hb6'⟩;have hb6:Below w0.heap.size w0 w6:=(by first|with_reducible exact hb6'|with_reducible exact zdU hb6'))
   | fail)
 have hBf:=zai hb0 hb0.size hb6
 go_wp2
 go_ret
 exact⟨rfl,hBf⟩
theorem zgE(d:Int)(h0:0<=d)(h3:d<=3)(w:World) :
  Calls (SqG.prog aLt) 124 #[.int .i64 d] w fun e w'=>e=.returned (.int .i64 ((d+2) % 4))/\w'=w:=by
 go_enter (zfx func124),ntmps124
 go_wp2
 go_ret
 exact⟨rfl,rfl⟩
theorem zif(W H:Nat)(a:Option Addr)(n cap:Nat)(w:World)(hW:1<=W/\W<=5)(hH5:1<=H/\H<=5)(hl:n=W * H)(k:Int)(hk:0<=k/\k<=19)(x d:Int)(hv:zds W H k=(x,d)) :
  Calls (SqG.prog aLt) 67 #[.agg #[.int .i64 (W:Int),.slice a n cap],.int .i64 k] w fun e w'=>e=.returned (.agg #[.int .i64 x,.int .i64 d])/\Below w.heap.size w w':=by
 have hH:n / W=H:=by rw[hl];exact Nat.mul_div_cancel_left H qg
 have hn:n<=25:=by rw[hl];exact Nat.le_trans (Nat.mul_le_mul hW.2 hH5.2) qg
 have HH:Hid (n / W=H):=hH
 have hlI:(W:Int) * (H:Int)=(n:Int):=by rw[hl];simp
 simp only[zds,hlI] at hv
 clear hH hl hlI
 go_enter (zfx func67),ntmps67
 go_wp2_with fail
 refine(zfM W H _ _ _ _ hW.1 qg HH.out).mono ?_
 rintro e w1 ⟨rfl,hb1⟩
 have g0:w1.cell? ⟨w.heap.size,0,none⟩=some (.int .i64 (W:Int)):=zad hb1 qj
 have g1:w1.cell? ⟨w.heap.size,1,none⟩=some (.slice a n cap):=zad hb1 qj
 have q0:w1.cell? ⟨w.heap.size+1,0,none⟩=some (.int .i64 0):=zad hb1 qj
 have q1:w1.cell? ⟨w.heap.size+1,1,none⟩=some (.int .i64 0):=zad hb1 qj
 have f0:w1.frozen? ⟨w.heap.size+1,0,none⟩=false:=zal hb1 (v:=.int .i64 0) qj qj
 have f1:w1.frozen? ⟨w.heap.size+1,1,none⟩=false:=zal hb1 (v:=.int .i64 0) qj qj
 have hB1:Below w.heap.size w w1:=zai bel ql hb1
 clear hb1
 by_cases c1:k<(W:Int)
 ·rw[if_pos c1] at hv
  simp only[Prod.mk.injEq] at hv
  obtain⟨rfl,rfl⟩:=hv
  go_wp2
  refine bodyPost_ret (v:=.agg #[.int .i64 k,.int .i64 2]) (by simp[results,results67,go_sem,q0,q1]) rfl ⟨rfl,?_⟩
  exact(hB1.setCell (p:=⟨w.heap.size+1,0,none⟩) qk _).setCell (p:=⟨w.heap.size+1,1,none⟩) qk _
 rw[if_neg c1] at hv
 by_cases c2:k - (W:Int)<(H:Int)
 ·rw[if_pos c2] at hv
  simp only[Prod.mk.injEq] at hv
  obtain⟨hx,rfl⟩:=hv
  obtain⟨m,hm⟩:∃ m,(k - (W:Int)) * (W:Int)=m:=⟨_,rfl⟩
  have hm2:0<=m/\m<=25:=by
   rw[<- hm]
   exact⟨Int.mul_nonneg qg qg,Int.le_trans (Int.mul_le_mul (show k - (W:Int)<=5 by omega) (show (W:Int)<=5 by omega) qg qg) qg⟩
  have v1:IntKind.i64.wrap ((k - (W:Int)) * (W:Int))=m:=by rw[hm];exact IntWalk.i64_in _ qg
  rw[hm] at hx
  have hx2:m+(W:Int) - 1=x:=hx
  have c1':(W:Int)<=k:=qg
  clear hm c1 hx
  go_wp2
  refine bodyPost_ret (v:=.agg #[.int .i64 x,.int .i64 3]) (by simp[results,results67,go_sem,q0,q1]) rfl ⟨rfl,?_⟩
  exact(hB1.setCell (p:=⟨w.heap.size+1,0,none⟩) qk _).setCell (p:=⟨w.heap.size+1,1,none⟩) qk _
 rw[if_neg c2] at hv
 by_cases c3:k - (W:Int) - (H:Int)<(W:Int)
 ·rw[if_pos c3] at hv
  simp only[Prod.mk.injEq] at hv
  obtain⟨hx,rfl⟩:=hv
  have hx2:(n:Int) - 1 - (k - (W:Int) - (H:Int))=x:=hx
  have c1':(W:Int)<=k:=qg
  have c2':(H:Int)<=k - (W:Int):=qg
  clear c1 c2 hx
  go_wp2
  refine bodyPost_ret (v:=.agg #[.int .i64 x,.int .i64 0]) (by simp[results,results67,go_sem,q0,q1]) rfl ⟨rfl,?_⟩
  exact(hB1.setCell (p:=⟨w.heap.size+1,0,none⟩) qk _).setCell (p:=⟨w.heap.size+1,1,none⟩) qk _
 ·rw[if_neg c3] at hv
  simp only[Prod.mk.injEq] at hv
  obtain⟨hx,rfl⟩:=hv
  obtain⟨m,hm⟩:∃ m,(k - (W:Int) - (H:Int) - (W:Int)) * (W:Int)=m:=⟨_,rfl⟩
  have hm2:0<=m/\m<=95:=by
   rw[<- hm]
   exact⟨Int.mul_nonneg qg qg,Int.le_trans (Int.mul_le_mul (show k - (W:Int) - (H:Int) - (W:Int)<=19 by omega) (show (W:Int)<=5 by omega) qg qg) qg⟩
  have v1:IntKind.i64.wrap ((k - (W:Int) - (H:Int) - (W:Int)) * (W:Int))=m:=by rw[hm];exact IntWalk.i64_in _ qg
  rw[hm] at hx
  have hx2:(n:Int) - 1 - (W:Int)+1 - m=x:=hx
  have c1':(W:Int)<=k:=qg
  have c2':(H:Int)<=k - (W:Int):=qg
  have c3':(W:Int)<=k - (W:Int) - (H:Int):=qg
  clear hm c1 c2 c3 hx
  go_wp2
  refine bodyPost_ret (v:=.agg #[.int .i64 x,.int .i64 1]) (by simp[results,results67,go_sem,q0,q1]) rfl ⟨rfl,?_⟩
  exact(hB1.setCell (p:=⟨w.heap.size+1,0,none⟩) qk _).setCell (p:=⟨w.heap.size+1,1,none⟩) qk _
theorem zkK(W H k x d:Int)(h:zds W H k=(x,d)):0<=d/\d<=3:=by
 unfold zds at h
 split at h
 ·simp only[Prod.mk.injEq] at h;omega
 ·split at h
  ·simp only[Prod.mk.injEq] at h;omega
  ·split at h <;> (simp only[Prod.mk.injEq] at h;omega)
theorem zra(W H x d:Int)(k:Nat)(h0:ofN W H x d k=-1)(x2 d2:Int)(hs:zds W H k=(x2,d2))(h1:x2=x)(h2:(d2+2) % 4=d)(m:Nat)(hm:k<m):ofN W H x d m=(k:Int):=by
 induction m with
 | zero=>omega
 | succ m ih =>
  by_cases h:k<m
  ·have e:=ih h
   simp only[ofN]
   rw[if_pos (by rw[e];omega),e]
  ·obtain rfl:m=k:=qg
   simp only[ofN]
   rw[if_neg (by simp[h0]),if_pos (by rw[hs];exact⟨h1,h2⟩)]
theorem zky(W H x d:Int)(k:Nat)(h0:ofN W H x d k=-1)(x2 d2:Int)(hs:zds W H k=(x2,d2))(h:¬ (x2=x/\(d2+2) % 4=d)):ofN W H x d (k+1)=-1:=by
 simp only[ofN]
 rw[if_neg (by simp[h0]),if_neg (by rw[hs];exact h)]
theorem zpj(W H:Nat)(a:Option Addr)(n cap:Nat)(w:World)(hW:1<=W/\W<=5)(hH5:1<=H/\H<=5)(hl:n=W * H)(x d:Int) :
  Calls (SqG.prog aLt) 123 #[.agg #[.int .i64 (W:Int),.slice a n cap],.int .i64 x,.int .i64 d] w fun e w'=>e=.returned (.int .i64 (ofN W H x d (2 * (W+H))))/\Below w.heap.size w w':=by
 have hH:n / W=H:=by rw[hl];exact Nat.mul_div_cancel_left H qg
 have hn:n<=25:=by rw[hl];exact Nat.le_trans (Nat.mul_le_mul hW.2 hH5.2) qg
 have HH:Hid (n / W=H):=hH
 have HL:Hid (n=W * H):=hl
 obtain⟨M,hM⟩:∃ M:Nat,M=2 * (W+H):=⟨_,rfl⟩
 have HM:Hid (2 * ((W:Int)+(H:Int))=(M:Int)):=by show _=_;rw[hM];simp
 have hM2:M<=20:=qg
 rw[<- hM]
 have CM:Hid (∀(w:World),Calls (SqG.prog aLt) 27 #[.agg #[.int .i64 (W:Int),.slice a n cap]] w fun e w'=>e=.returned (.int .i64 (M:Int))/\Below w.heap.size w w'):=by
  intro w
  have:=zgF (aLt:=aLt) W H a n cap w hW hH5.2 qg hH
  rw[HM.out] at this
  exact this
 have hb0:Below w.heap.size w (w.alloc (.cells #[.int .i64 (W:Int),.slice a n cap] 25)):=bel
 have g0:(w.alloc (.cells #[.int .i64 (W:Int),.slice a n cap] 25)).cell? ⟨w.heap.size,0,none⟩=some (.int .i64 (W:Int)):=qj
 have g1:(w.alloc (.cells #[.int .i64 (W:Int),.slice a n cap] 25)).cell? ⟨w.heap.size,1,none⟩=some (.slice a n cap):=qj
 clear hH hl hM HM
 go_enter (zfx func123),ntmps123
 go_wp2
 obtain⟨w0,hw0⟩:∃ w0,w0=w.alloc (.cells #[.int .i64 (W:Int),.slice a n cap] 25):=⟨_,rfl⟩
 rw[<- hw0] at hb0 g0 g1 ⊢
 clear hw0
 go_loopw [7,8] (fun i l8 wr=>∃ k:Nat,k<=M/\i=.int .i64 k/\ofN W H x d k=-1/\Below w0.heap.size w0 wr) (fun i _ _=>M - (intOf i).toNat)
 case atStart=>exact⟨0,Nat.zero_le _,rfl,rfl,Below.refl _ _⟩
 case round =>
  obtain⟨k,hk,rfl,hno,hb⟩:=hrel
  have hz:=hb.size
  have hz0:=hb0.size
  replace g0:=zad hb g0;replace g1:=zad hb g1
  have HNO:Hid (ofN W H x d k=-1):=hno
  clear hno
  go_wp2_with fail
  refine(CM.out _).mono ?_
  rintro e w1 ⟨rfl,hb1⟩
  have hz1:=hb1.size
  have hB1:=zai hb hb.size hb1
  replace g0:=zad hb1 g0;replace g1:=zad hb1 g1
  clear hb hb1
  by_cases hlt:k<M
  ·obtain⟨x2,d2,hs⟩:∃ x2 d2,zds W H (k:Int)=(x2,d2):=⟨_,_,rfl⟩
   have HS:Hid (zds W H (k:Int)=(x2,d2)):=hs
   have hd2:=zkK _ _ _ _ _ hs
   have hdA:=hd2.1
   have hdB:=hd2.2
   clear hs
   go_wp2_with fail
   refine(zif W H a n cap _ hW hH5 HL.out (k:Int) qg x2 d2 HS.out).mono ?_
   rintro e w2 ⟨rfl,hb2⟩
   have hz2:=hb2.size
   have hB2:=zai hB1 hB1.size hb2
   have hB3:Below w0.heap.size w0 (w2.alloc (.cells #[.int .i64 x2,.int .i64 d2] 67)):=hB2.alloc hB2.size _
   clear hb2
   by_cases e1:x2=x
   ·subst e1
    have b1:(x2 == x2)=true:=qk
    by_cases e2:(d2+2) % 4=d
    ·have HV:Hid (ofN W H x2 d M=(k:Int)):=zra W H x2 d k HNO.out x2 d2 HS.out rfl e2 M hlt
     have b2:((d2+2) % 4 == d)=true:=by simp[e2]
     clear e2
     go_wp2_with fail
     refine(zgE d2 hdA hdB _).mono ?_
     rintro e w' ⟨rfl,rfl⟩
     go_wp2
     go_ret
     exact⟨by rw[HV.out];rfl,zai hb0 hb0.size hB3⟩
    ·have hv:=zky W H x2 d k HNO.out x2 d2 HS.out (fun q=>e2 q.2)
     have b2:((d2+2) % 4 == d)=false:=by simp[e2]
     clear e2
     go_wp2_with fail
     refine(zgE d2 hdA hdB _).mono ?_
     rintro e w' ⟨rfl,rfl⟩
     go_wp2
     go_roundw
     case rel=>exact⟨k+1,qg,by go_num,hv,hB3⟩
     case measure=>exact qe
   ·have hv:=zky W H x d k HNO.out x2 d2 HS.out (fun q=>e1 q.1)
    have b1:(x2 == x)=false:=by simp[e1]
    clear e1
    go_wp2
    go_roundw
    case rel=>exact⟨k+1,qg,by go_num,hv,hB3⟩
    case measure=>exact qe
  ·obtain rfl:k=M:=qg
   go_wp2
   go_ret
   exact⟨by rw[HNO.out];rfl,zai hb0 hb0.size hB1⟩
