/- Part. -/
import Derived.WalkKit
import Derived.WalkLawsBesides
import Derived.Deep.Draws
import Derived.Test.YthfhlgdeghnggaaGreatTAj
set_option maxHeartbeats 800000
set_option linter.unusedVariables false
namespace Go.Proofs.YthfhlgdeghnggaaGreat
variable{cs:List (Int × Int)}{B b cap g o:Nat}{a:Option Addr}{v:Value}{W w w' w1:World}
namespace Sp
variable{aLt:Nat->Func->Func}
open Go.RowKit
theorem zs1(hb:Below W.heap.size W w1):(∀ b o,b<W.heap.size->w1.cell? ⟨b,o,none⟩=W.cell? ⟨b,o,none⟩)/\(∀ b o,b<W.heap.size->w1.frozen? ⟨b,o,none⟩=W.frozen? ⟨b,o,none⟩) :=
 ⟨fun b o h=>hb.cell (p:=⟨b,o,none⟩) h,fun b o h=>hb.frozen (p:=⟨b,o,none⟩) h⟩
theorem zaj{w2:World}(h:Below B w w1)(hB:B<=w1.heap.size)(h2:Below w1.heap.size w1 w2):Below B w w2 :=
 h.trans (h2.mono hB)
theorem zab(hb:Below W.heap.size W w1)(h:W.cell? ⟨b,o,none⟩=some v):w1.cell? ⟨b,o,none⟩=some v :=
 (hb.cell (World.block_lt_of_cell? W _ h)).trans h
theorem zam(hb:Below W.heap.size W w1){c:Bool}(h:W.cell? ⟨b,o,none⟩=some v)(hf:W.frozen? ⟨b,o,none⟩=c):w1.frozen? ⟨b,o,none⟩=c :=
 (hb.frozen (World.block_lt_of_cell? W _ h)).trans hf
theorem zbZ(h:Below w.drew.heap.size w.drew w'):Below w.heap.size w w':=⟨h.os,h.tape,h.output,h.size,h.block⟩
theorem zo6{j:Nat}{u:Value}(hne:b≠g)(h:w.cell? ⟨b,o,none⟩=some v):(w.setCell ⟨g,j,none⟩ u).cell? ⟨b,o,none⟩=some v:=by
 rw[World.cell?_of_block (w:=w) (Below.heap_setCell w ⟨g,j,none⟩ u b hne)]
 exact h
def okC(k l:Int):Bool:=if k=7 then decide (1<=l/\l<=9) else decide (0<=k/\k<=6/\l=0)
theorem zp5(k l:Int)(h:k<0\/7<k):okC k l=false:=by
 unfold okC
 rw[if_neg (by omega)]
 simp
 omega
def inB(n a b:Int):Bool:=decide (a<=n/\n<=b)
theorem zaI(n a b:Int)(w:World) :
  Calls (SqG.prog aLt) 61 #[.int .i64 n,.int .i64 a,.int .i64 b] w fun e w'=>e=.returned (.bool (inB n a b))/\w'=w:=by
 by_cases h1:a<=n
 ·by_cases h2:n<=b
  ·go_enter SqG.func61,Tryz.ntmps61
   go_wp2
   go_ret
   exact⟨by simp[inB,h1,h2],rfl⟩
  ·go_enter SqG.func61,Tryz.ntmps61
   go_wp2
   go_ret
   exact⟨by simp[inB,h1,h2],rfl⟩
 ·go_enter SqG.func61,Tryz.ntmps61
  go_wp2
  go_ret
  exact⟨by simp[inB];omega,rfl⟩
theorem zdu(k l:Int)(w:World) :
  Calls (SqG.prog aLt) 60 #[.agg #[.int .i64 k,.int .i64 l]] w fun e w'=>e=.returned (.bool (okC k l))/\Below w.heap.size w w':=by
 by_cases h7:k=7
 ·subst h7
  go_enter SqG.func60,Tryz.ntmps60
  go_wp2_with (go_at_call 61;refine(zaI _ _ _ _).mono ?_;rintro e w' ⟨rfl,rfl⟩)
  go_ret
  exact⟨by simp[okC,inB],bel⟩
 ·by_cases h1:0<=k/\k<=6
  ·have hi:inB k 0 6=true:=by simp[inB,h1]
   by_cases hl:l=0
   all_goals
    go_enter SqG.func60,Tryz.ntmps60
    go_wp2_with (go_at_call 61;refine(zaI _ _ _ _).mono ?_;rintro e w' ⟨rfl,rfl⟩)
    go_ret
    exact⟨by simp[okC,h7,h1,hl],bel⟩
  ·have hi:inB k 0 6=false:=by simp[inB];omega
   go_enter SqG.func60,Tryz.ntmps60
   go_wp2_with (go_at_call 61;refine(zaI _ _ _ _).mono ?_;rintro e w' ⟨rfl,rfl⟩)
   go_ret
   exact⟨by simp[okC,h7];omega,bel⟩
theorem zmj(w:World):Sem.run (SqG.prog aLt) (method 343 183 (Value.agg #[]) "loop.example/lucarne/impl.mayShine") w=.ok (176,.agg #[]) w:=by kernel_rfl
theorem zmm(w:World):Sem.run (SqG.prog aLt) (method 343 184 (Value.agg #[]) "loop.example/lucarne/impl.mayShine") w=.ok (176,.agg #[]) w:=by kernel_rfl
theorem zkc(w:World):Sem.run (SqG.prog aLt) (method 343 185 (Value.agg #[]) "loop.example/lucarne/impl.mayShine") w=.ok (176,.agg #[]) w:=by kernel_rfl
theorem zmi(w:World):Sem.run (SqG.prog aLt) (method 343 186 (Value.agg #[]) "loop.example/lucarne/impl.mayShine") w=.ok (176,.agg #[]) w:=by kernel_rfl
theorem zkb(w:World):Sem.run (SqG.prog aLt) (method 343 187 (Value.agg #[]) "loop.example/lucarne/impl.mayShine") w=.ok (176,.agg #[]) w:=by kernel_rfl
theorem zml(w:World):Sem.run (SqG.prog aLt) (method 343 188 (Value.agg #[]) "loop.example/lucarne/impl.mayShine") w=.ok (176,.agg #[]) w:=by kernel_rfl
theorem zos(w:World):Sem.run (SqG.prog aLt) (method 343 189 (Value.agg #[]) "loop.example/lucarne/impl.mayShine") w=.ok (176,.agg #[]) w:=by kernel_rfl
theorem zmk(w:World):Sem.run (SqG.prog aLt) (method 343 190 (Value.agg #[]) "loop.example/lucarne/impl.mayShine") w=.ok (184,.agg #[]) w:=by kernel_rfl
theorem zfG(l:Int)(w:World) :
  Calls (SqG.prog aLt) 79 #[.agg #[.int .i64 0,.int .i64 l]] w fun e w'=>e=.returned (.bool (okC 0 l))/\Below w.heap.size w w':=by
 have hs:=zmj (aLt:=aLt)
 go_enter SqG.func79,Tryz.ntmps79
 go_wp2_with (first|(go_at_call 94;go_enter SqG.func94,Tryz.ntmps94)|(go_at_call 176;go_enter SqG.func176,Tryz.ntmps176)|fail)
 go_ret
 exact⟨by simp[okC];rfl,bel⟩
theorem zfK(l:Int)(w:World) :
  Calls (SqG.prog aLt) 79 #[.agg #[.int .i64 1,.int .i64 l]] w fun e w'=>e=.returned (.bool (okC 1 l))/\Below w.heap.size w w':=by
 have hs:=zmm (aLt:=aLt)
 go_enter SqG.func79,Tryz.ntmps79
 go_wp2_with (first|(go_at_call 94;go_enter SqG.func94,Tryz.ntmps94)|(go_at_call 176;go_enter SqG.func176,Tryz.ntmps176)|fail)
 go_ret
 exact⟨by simp[okC];rfl,bel⟩
theorem zeZ(l:Int)(w:World) :
  Calls (SqG.prog aLt) 79 #[.agg #[.int .i64 2,.int .i64 l]] w fun e w'=>e=.returned (.bool (okC 2 l))/\Below w.heap.size w w':=by
 have hs:=zkc (aLt:=aLt)
 go_enter SqG.func79,Tryz.ntmps79
 go_wp2_with (first|(go_at_call 94;go_enter SqG.func94,Tryz.ntmps94)|(go_at_call 176;go_enter SqG.func176,Tryz.ntmps176)|fail)
 go_ret
 exact⟨by simp[okC];rfl,bel⟩
theorem zfF(l:Int)(w:World) :
  Calls (SqG.prog aLt) 79 #[.agg #[.int .i64 3,.int .i64 l]] w fun e w'=>e=.returned (.bool (okC 3 l))/\Below w.heap.size w w':=by
 have hs:=zmi (aLt:=aLt)
 go_enter SqG.func79,Tryz.ntmps79
 go_wp2_with (first|(go_at_call 94;go_enter SqG.func94,Tryz.ntmps94)|(go_at_call 176;go_enter SqG.func176,Tryz.ntmps176)|fail)
 go_ret
 exact⟨by simp[okC];rfl,bel⟩
theorem zeY(l:Int)(w:World) :
  Calls (SqG.prog aLt) 79 #[.agg #[.int .i64 4,.int .i64 l]] w fun e w'=>e=.returned (.bool (okC 4 l))/\Below w.heap.size w w':=by
 have hs:=zkb (aLt:=aLt)
 go_enter SqG.func79,Tryz.ntmps79
 go_wp2_with (first|(go_at_call 94;go_enter SqG.func94,Tryz.ntmps94)|(go_at_call 176;go_enter SqG.func176,Tryz.ntmps176)|fail)
 go_ret
 exact⟨by simp[okC];rfl,bel⟩
theorem zfJ(l:Int)(w:World) :
  Calls (SqG.prog aLt) 79 #[.agg #[.int .i64 5,.int .i64 l]] w fun e w'=>e=.returned (.bool (okC 5 l))/\Below w.heap.size w w':=by
 have hs:=zml (aLt:=aLt)
 go_enter SqG.func79,Tryz.ntmps79
 go_wp2_with (first|(go_at_call 94;go_enter SqG.func94,Tryz.ntmps94)|(go_at_call 176;go_enter SqG.func176,Tryz.ntmps176)|fail)
 go_ret
 exact⟨by simp[okC];rfl,bel⟩
theorem zgB(l:Int)(w:World) :
  Calls (SqG.prog aLt) 79 #[.agg #[.int .i64 6,.int .i64 l]] w fun e w'=>e=.returned (.bool (okC 6 l))/\Below w.heap.size w w':=by
 have hs:=zos (aLt:=aLt)
 go_enter SqG.func79,Tryz.ntmps79
 go_wp2_with (first|(go_at_call 94;go_enter SqG.func94,Tryz.ntmps94)|(go_at_call 176;go_enter SqG.func176,Tryz.ntmps176)|fail)
 go_ret
 exact⟨by simp[okC];rfl,bel⟩
theorem zfH(l:Int)(w:World) :
  Calls (SqG.prog aLt) 79 #[.agg #[.int .i64 7,.int .i64 l]] w fun e w'=>e=.returned (.bool (okC 7 l))/\Below w.heap.size w w':=by
 have hs:=zmk (aLt:=aLt)
 by_cases h1:1<=l
 ·by_cases h2:l<=9
  all_goals
   go_enter SqG.func79,Tryz.ntmps79
   go_wp2_with (first|(go_at_call 94;go_enter SqG.func94,Tryz.ntmps94)|(go_at_call 184;go_enter SqG.func184,Tryz.ntmps184)|fail)
   go_ret
   exact⟨by simp[okC,h1,h2],bel⟩
 ·go_enter SqG.func79,Tryz.ntmps79
  go_wp2_with (first|(go_at_call 94;go_enter SqG.func94,Tryz.ntmps94)|(go_at_call 184;go_enter SqG.func184,Tryz.ntmps184)|fail)
  go_ret
  exact⟨by simp[okC];omega,bel⟩
theorem zfI(k l:Int)(h:k<0\/7<k)(w:World) :
  Calls (SqG.prog aLt) 79 #[.agg #[.int .i64 k,.int .i64 l]] w fun e w'=>e=.returned (.bool (okC k l))/\Below w.heap.size w w':=by
 go_enter SqG.func79,Tryz.ntmps79
 go_wp2_with (first|(go_at_call 94;go_enter SqG.func94,Tryz.ntmps94)|fail)
 go_ret
 exact⟨by rw[zp5 k l h];rfl,bel⟩
theorem zdt(k l:Int)(w:World) :
  Calls (SqG.prog aLt) 79 #[.agg #[.int .i64 k,.int .i64 l]] w fun e w'=>e=.returned (.bool (okC k l))/\Below w.heap.size w w':=by
 by_cases h:k<0\/7<k
 ·exact zfI k l h w
 ·rcases (show k=0\/k=1\/k=2\/k=3\/k=4\/k=5\/k=6\/k=7 by omega) with rfl|rfl|rfl|rfl|rfl|rfl|rfl|rfl
  ·exact zfG l w
  ·exact zfK l w
  ·exact zeZ l w
  ·exact zfF l w
  ·exact zeY l w
  ·exact zfJ l w
  ·exact zgB l w
  ·exact zfH l w
def zak(w:World)(a:Option Addr)(cs:List (Int × Int)):Prop :=
 cs=[]\/∃ b off,a=some ⟨b,off,none⟩/\b<w.heap.size/\∀ i,i<cs.length ->
  w.cell? ⟨b,off+i * 2,none⟩=some (.int .i64 (cs.getD i (0,0)).1)/\w.cell? ⟨b,off+i * 2+1,none⟩=some (.int .i64 (cs.getD i (0,0)).2)
def zcw(wd:Int)(n:Int):Bool:=decide (1<=wd/\wd<=5/\n % wd=0/\1<=n / wd/\n / wd<=5)
def okG(wd:Int)(cs:List (Int × Int)):Bool:=zcw wd cs.length && cs.all fun c=>okC c.1 c.2
theorem zkB(cs:List (Int × Int))(k:Nat)(h:k<cs.length)(p:Int × Int->Bool):(cs.take (k+1)).all p=((cs.take k).all p && p cs[k]):=by
 rw[List.take_succ_eq_append_getElem h,List.all_append]
 simp only[List.all_cons,List.all_nil,Bool.and_true]
theorem zcd(wd:Int)(cs:List (Int × Int))(h:zcw wd cs.length=false):okG wd cs=false:=by simp[okG,h]
theorem zq4(wd:Int)(cs:List (Int × Int))(k:Nat)(h:k<cs.length)(hk:okC cs[k].1 cs[k].2=false):okG wd cs=false:=by
 have:(cs.all fun c=>okC c.1 c.2)=false:=by
  rw[List.all_eq_false]
  exact⟨cs[k],List.getElem_mem _,by simp[hk]⟩
 simp[okG,this]
theorem zn1(wd:Int)(cs:List (Int × Int))(h:zcw wd cs.length=true)(hk:(cs.all fun c=>okC c.1 c.2)=true):okG wd cs=true:=by simp only[okG,h,hk,Bool.and_self]
theorem zaw(wd:Int)(a:Option Addr)(cap:Nat)(cs:List (Int × Int))(w:World)(h:zak w a cs)(hm:cs.length<=4611686018427387904) :
  Calls (SqG.prog aLt) 71 #[.agg #[.int .i64 wd,.slice a cs.length cap]] w fun e w'=>e=.returned (.bool (okG wd cs))/\Below w.heap.size w w':=by
 by_cases h1:1<=wd
 ·have hq0:0<=(cs.length:Int) / wd:=Int.ediv_nonneg (by omega) (by omega)
  have hq1:(cs.length:Int) / wd<=cs.length:=Int.ediv_le_self _ (by omega)
  by_cases h2:wd<=5
  ·by_cases h3:(cs.length:Int) % wd=0
   ·by_cases h4:1<=(cs.length:Int) / wd
    ·by_cases h5:(cs.length:Int) / wd<=5
     ·have hne:cs≠[]:=by intro hx;subst hx;simp at h4
      have HS:Hid (zcw wd cs.length=true):=by show zcw wd cs.length=true;simp[zcw,h1,h2,h3,h4,h5]
      rcases h with h|⟨b,off,rfl,hbl,hcell⟩
      ·exact absurd h hne
      go_enter SqG.func71,Tryz.ntmps71
      go_wp2_with (first|(go_at_call 83;go_enter SqG.func83,Tryz.ntmps83)|fail)
      go_loopw [33] (fun i wr=>∃ k:Nat,k<=cs.length/\i=.int .i64 k/\((cs.take k).all fun c=>okC c.1 c.2)=true/\Below w.heap.size w wr) (fun i _=>cs.length - (intOf i).toNat)
      case atStart=>exact⟨0,Nat.zero_le _,rfl,by simp,bel⟩
      case round =>
       obtain⟨k,hk,rfl,hall,hb⟩:=hrel
       by_cases hlt:k<cs.length
       ·obtain⟨hx,hy⟩:=hcell k hlt
        rw[<- hb.cell (p:=⟨b,_,none⟩) hbl] at hx hy
        have HA:Hid (((cs.take (k+1)).all fun c=>okC c.1 c.2)=okC cs[k].1 cs[k].2):=by show _=_;rw[zkB cs k hlt,hall];simp
        clear hall
        have hzr:=hb.size
        by_cases hok:okC cs[k].1 cs[k].2=true
        ·go_wp2_with fail
         refine(zdt _ _ _).mono ?_
         rintro e w2 ⟨rfl,hb2⟩
         go_wp2_with (first|(go_at_call 83;go_enter SqG.func83,Tryz.ntmps83)|fail)
         go_roundw
         case rel=>exact⟨k+1,by omega,by go_num,by rw[HA.out];exact hok,zaj (hb.alloc hzr _) (by simp;omega) hb2⟩
         case measure=>simp[intOf];omega
        ·have hok':okC cs[k].1 cs[k].2=false:=by simpa using hok
         clear hok
         go_wp2_with fail
         refine(zdt _ _ _).mono ?_
         rintro e w2 ⟨rfl,hb2⟩
         go_wp2_with (first|(go_at_call 83;go_enter SqG.func83,Tryz.ntmps83)|fail)
         go_ret
         exact⟨by rw[zq4 wd cs k hlt hok'];rfl,zaj (hb.alloc hzr _) (by simp;omega) hb2⟩
       ·go_wp2_with (first|(go_at_call 83;go_enter SqG.func83,Tryz.ntmps83)|fail)
        go_ret
        exact⟨by rw[zn1 wd cs HS.out (by rw[List.take_of_length_le (by omega)] at hall;exact hall)];rfl,hb⟩
     ·go_enter SqG.func71,Tryz.ntmps71
      go_wp2_with (first|(go_at_call 83;go_enter SqG.func83,Tryz.ntmps83)|fail)
      go_ret
      exact⟨by rw[zcd wd cs (by simp[zcw];omega)];rfl,bel⟩
    ·go_enter SqG.func71,Tryz.ntmps71
     go_wp2_with (first|(go_at_call 83;go_enter SqG.func83,Tryz.ntmps83)|fail)
     go_ret
     exact⟨by rw[zcd wd cs (by simp[zcw];omega)];rfl,bel⟩
   ·go_enter SqG.func71,Tryz.ntmps71
    go_wp2_with (first|(go_at_call 83;go_enter SqG.func83,Tryz.ntmps83)|fail)
    go_ret
    exact⟨by rw[zcd wd cs (by simp[zcw];omega)];rfl,bel⟩
  ·go_enter SqG.func71,Tryz.ntmps71
   go_wp2_with (first|(go_at_call 83;go_enter SqG.func83,Tryz.ntmps83)|fail)
   go_ret
   exact⟨by rw[zcd wd cs (by simp[zcw];omega)];rfl,bel⟩
 ·go_enter SqG.func71,Tryz.ntmps71
  go_wp2_with (first|(go_at_call 83;go_enter SqG.func83,Tryz.ntmps83)|fail)
  go_ret
  exact⟨by rw[zcd wd cs (by simp[zcw];omega)];rfl,bel⟩
theorem zbD(wd:Int)(a:Option Addr)(cap:Nat)(cs:List (Int × Int))(w:World)(h:zak w a cs)(hm:cs.length<=4611686018427387904) :
  Calls (SqG.prog aLt) 69 #[.agg #[.int .i64 wd,.slice a cs.length cap]] w fun e w'=>e=.returned (.bool (okG wd cs))/\Below w.heap.size w w':=by
 by_cases h1:1<=wd/\wd<=5
 ·obtain⟨h1,h2⟩:=h1
  have hq0:0<=(cs.length:Int) / wd:=Int.ediv_nonneg (by omega) (by omega)
  have hq1:(cs.length:Int) / wd<=cs.length:=Int.ediv_le_self _ (by omega)
  have hi1:inB wd 1 5=true:=by simp[inB,h1,h2]
  by_cases h3:(cs.length:Int) % wd=0
  ·by_cases h4:1<=(cs.length:Int) / wd/\(cs.length:Int) / wd<=5
   ·obtain⟨h4,h5⟩:=h4
    have hi2:inB ((cs.length:Int) / wd) 1 5=true:=by simp[inB,h4,h5]
    have hne:cs≠[]:=by intro hx;subst hx;simp at h4
    have HS:Hid (zcw wd cs.length=true):=by show zcw wd cs.length=true;simp[zcw,h1,h2,h3,h4,h5]
    rcases h with h|⟨b,off,rfl,hbl,hcell⟩
    ·exact absurd h hne
    go_enter SqG.func69,Tryz.ntmps69
    go_wp2_with (go_at_call 61;refine(zaI _ _ _ _).mono ?_;rintro e w' ⟨rfl,rfl⟩)
    go_loopw [3] (fun i wr=>∃ k:Nat,k<=cs.length/\i=.int .i64 k/\((cs.take k).all fun c=>okC c.1 c.2)=true/\Below w.heap.size w wr/\w.heap.size<wr.heap.size/\wr.cell? ⟨w.heap.size,1,none⟩=some (.slice (some ⟨b,off,none⟩) cs.length cap)) (fun i _=>cs.length - (intOf i).toNat)
    case atStart=>exact⟨0,Nat.zero_le _,rfl,by simp,bel,by simp,by simp⟩
    case round =>
     obtain⟨k,hk,rfl,hall,hb,hzr,hbox⟩:=hrel
     by_cases hlt:k<cs.length
     ·obtain⟨hx,hy⟩:=hcell k hlt
      rw[<- hb.cell (p:=⟨b,_,none⟩) hbl] at hx hy
      have HA:Hid (((cs.take (k+1)).all fun c=>okC c.1 c.2)=okC cs[k].1 cs[k].2):=by show _=_;rw[zkB cs k hlt,hall];simp
      clear hall
      by_cases hok:okC cs[k].1 cs[k].2=true
      ·go_wp2_with fail
       refine(zdu _ _ _).mono ?_
       rintro e w2 ⟨rfl,hb2⟩
       have hz2:=hb2.size
       go_wp2
       go_roundw
       case rel=>exact⟨k+1,by omega,by go_num,by rw[HA.out];exact hok,zaj hb (by omega) hb2,by omega,by rw[hb2.cell (p:=⟨w.heap.size,1,none⟩) hzr];exact hbox⟩
       case measure=>simp[intOf];omega
      ·have hok':okC cs[k].1 cs[k].2=false:=by simpa using hok
       clear hok
       go_wp2_with fail
       refine(zdu _ _ _).mono ?_
       rintro e w2 ⟨rfl,hb2⟩
       go_wp2
       go_ret
       exact⟨by rw[zq4 wd cs k hlt hok'];rfl,zaj hb (by omega) hb2⟩
     ·go_wp2
      go_ret
      exact⟨by rw[zn1 wd cs HS.out (by rw[List.take_of_length_le (by omega)] at hall;exact hall)];rfl,hb⟩
   ·have hi2:inB ((cs.length:Int) / wd) 1 5=false:=by simp[inB];omega
    go_enter SqG.func69,Tryz.ntmps69
    go_wp2_with (go_at_call 61;refine(zaI _ _ _ _).mono ?_;rintro e w' ⟨rfl,rfl⟩)
    go_ret
    exact⟨by rw[zcd wd cs (by simp[zcw];omega)];rfl,bel⟩
  ·go_enter SqG.func69,Tryz.ntmps69
   go_wp2_with (go_at_call 61;refine(zaI _ _ _ _).mono ?_;rintro e w' ⟨rfl,rfl⟩)
   go_ret
   exact⟨by rw[zcd wd cs (by simp[zcw];omega)];rfl,bel⟩
 ·have hi1:inB wd 1 5=false:=by simp[inB];omega
  go_enter SqG.func69,Tryz.ntmps69
  go_wp2_with (go_at_call 61;refine(zaI _ _ _ _).mono ?_;rintro e w' ⟨rfl,rfl⟩)
  go_ret
  exact⟨by rw[zcd wd cs (by simp[zcw];omega)];rfl,bel⟩
theorem zhD:((SqG.prog aLt).info? 48).map (fun i=>(i.zero,i.size,i.bytes))=some (some (.agg #[.int .i64 0,.int .i64 0]),2,16):=by kernel_rfl
def flat(cs:List (Int × Int)):List Value:=cs.flatMap fun c=>[.int .i64 c.1,.int .i64 c.2]
def Own(w:World)(B:Nat)(v:Value)(cs:List (Int × Int)):Prop:=w.ownsRow B 48 2 v cs.length (flat cs)
theorem ze7(cs:List (Int × Int)):(flat cs).length=cs.length * 2:=by
 induction cs with
 | nil=>rfl
 | cons c r ih=>simp only[flat,List.flatMap_cons,List.length_append,List.length_cons,List.length_nil] at ih ⊢;omega
theorem zdX(c:Int × Int)(r:List (Int × Int)):flat (c::r)=.int .i64 c.1::.int .i64 c.2::flat r:=rfl
theorem zht(cs:List (Int × Int)):∀ i,i<cs.length->(flat cs)[i * 2]?=some (.int .i64 (cs.getD i (0,0)).1)/\(flat cs)[i * 2+1]?=some (.int .i64 (cs.getD i (0,0)).2):=by
 induction cs with
 | nil=>intro i h;simp at h
 | cons c r ih =>
  intro i h
  cases i with
  | zero=>exact⟨rfl,rfl⟩
  | succ i =>
   have:=ih i (by simpa using h)
   rw[zdX]
   refine⟨?_,?_⟩
   ·rw[show (i+1) * 2=i * 2+1+1 by omega];simpa using this.1
   ·rw[show (i+1) * 2+1=i * 2+1+1+1 by omega];simpa using this.2
theorem zpD(cs:List (Int × Int)):∀ i (x y:Int),i<cs.length->((flat cs).set (i * 2) (.int .i64 x)).set (i * 2+1) (.int .i64 y)=flat (cs.set i (x,y)):=by
 induction cs with
 | nil=>intro i x y h;simp at h
 | cons c r ih =>
  intro i x y h
  cases i with
  | zero=>rfl
  | succ i =>
   have:=ih i x y (by simpa using h)
   rw[zdX,show (i+1) * 2=i * 2+1+1 by omega]
   simp only[List.set_cons_succ,zdX]
   rw[this]
theorem Own.below(h:Own w B v cs)(hb:Below w.heap.size w w'):Own w' B v cs:=by
 obtain⟨h1,h2⟩:=h
 refine⟨h1,?_⟩
 rcases h2 with h2|⟨g,cap,cur,hv,hg,hh,r⟩
 ·exact Or.inl h2
 ·exact Or.inr ⟨g,cap,cur,hv,hg,by rw[hb.block g (gei hh).1];exact hh,r⟩
theorem Own.slice(h:Own w B v cs):∃ a cap,v=.slice a cs.length cap/\zak w a cs:=by
 obtain⟨h1,h2⟩:=h
 rcases h2 with ⟨rfl,h2⟩|⟨g,cap,cur,rfl,hg,hh,r⟩
 ·exact⟨none,0,by rw[h2],Or.inl (List.length_eq_zero_iff.1 h2)⟩
 ·have hO:w.ownsRow B 48 2 (.slice (some ⟨g,0,none⟩) cs.length cap) cs.length (flat cs):=⟨h1,Or.inr ⟨g,cap,cur,rfl,hg,hh,r⟩⟩
  refine⟨_,cap,rfl,Or.inr ⟨g,0,rfl,(gei hh).1,fun i hi=>?_⟩⟩
  have:=zht cs i hi
  rw[hO.cellAt _ (by omega),hO.cellAt _ (by omega),Nat.zero_add]
  exact this
theorem Own.lt{n:Nat}(h:Own w B (.slice (some ⟨g,0,none⟩) n cap) cs):B<=g/\g<w.heap.size :=
 World.ownsRow.lt h g rfl
theorem Own.cell{n:Nat}(h:Own w B (.slice (some ⟨g,0,none⟩) n cap) cs)(hn:cs.length=n)(i:Nat)(hi:i<n) :
  w.cell? ⟨g,i * 2,none⟩=some (.int .i64 (cs.getD i (0,0)).1)/\w.cell? ⟨g,i * 2+1,none⟩=some (.int .i64 (cs.getD i (0,0)).2)/\w.frozen? ⟨g,i * 2,none⟩=false/\w.frozen? ⟨g,i * 2+1,none⟩=false:=by
 subst hn
 have hO:w.ownsRow B 48 2 (.slice (some ⟨g,0,none⟩) cs.length cap) cs.length (flat cs):=h
 have:=zht cs i hi
 exact⟨by rw[hO.cellAt _ (by omega)];exact this.1,by rw[hO.cellAt _ (by omega)];exact this.2,hO.frozenAt _,hO.frozenAt _⟩
theorem Own.set{n:Nat}(h:Own w B (.slice (some ⟨g,0,none⟩) n cap) cs)(hn:cs.length=n)(i:Nat)(x y:Int)(hi:i<n) :
  Own ((w.setCell ⟨g,i * 2,none⟩ (.int .i64 x)).setCell ⟨g,i * 2+1,none⟩ (.int .i64 y)) B (.slice (some ⟨g,0,none⟩) n cap) (cs.set i (x,y)):=by
 subst hn
 have hO:w.ownsRow B 48 2 (.slice (some ⟨g,0,none⟩) cs.length cap) cs.length (flat cs):=h
 have h2:=((hO.stored (i * 2) (.int .i64 x)).1.stored (i * 2+1) (.int .i64 y)).1
 rw[zpD cs i x y hi] at h2
 unfold Own
 rw[List.length_set]
 exact h2
theorem zpZ(n:Nat):(madeCells #[Value.int .i64 0,Value.int .i64 0] (n * 2)).toList=flat (List.replicate n (0,0)):=by
 have h:∀ m,flat (List.replicate m (0,0))=List.replicate (m * 2) (Value.int .i64 0):=by
  intro m
  induction m with
  | zero=>rfl
  | succ m ih=>rw[List.replicate_succ,zdX,ih,show (m+1) * 2=m * 2+1+1 by omega];rfl
 rw[h]
 apply List.ext_getElem?
 intro j
 by_cases hj:j<n * 2
 ·have:j % 2=0\/j % 2=1:=by omega
  rcases this with e|e <;> simp[madeCells,hj,e]
 ·simp[madeCells,hj]
theorem Own.alloc(h:Own w B v cs)(o:Obj):Own (w.alloc o) B v cs:=World.ownsRow.alloc h o
theorem Own.drew(h:Own w B v cs):Own w.drew B v cs:=h
theorem Own.mono{B':Nat}(h:Own w B v cs)(hB:B'<=B):Own w B' v cs:=by
 obtain⟨h1,h2⟩:=h
 refine⟨h1,?_⟩
 rcases h2 with h2|⟨g,cap,cur,hv,hg,r⟩
 ·exact Or.inl h2
 ·exact Or.inr ⟨g,cap,cur,hv,by omega,r⟩
theorem zak.below(h:zak w a cs)(hb:Below w.heap.size w w'):zak w' a cs:=by
 rcases h with h|⟨b,off,rfl,hbl,hc⟩
 ·exact Or.inl h
 ·refine Or.inr ⟨b,off,rfl,nll hbl hb.size,fun i hi=>?_⟩
  rw[hb.cell (p:=⟨b,_,none⟩) hbl,hb.cell (p:=⟨b,_,none⟩) hbl]
  exact hc i hi
theorem zql(cs:List (Int × Int))(k:Nat)(h:k<cs.length):(cs.take k++List.replicate (cs.length - k) (0,0)).set k (cs[k].1,cs[k].2)=cs.take (k+1)++List.replicate (cs.length - (k+1)) (0,0):=by
 rw[List.set_append_right _ _ (by simp;omega),List.take_succ_eq_append_getElem h]
 have:(List.take k cs).length=k:=by simp;omega
 rw[this,Nat.sub_self,show cs.length - k=(cs.length - (k+1))+1 by omega,List.replicate_succ]
 simp only[List.set_cons_zero,List.append_assoc,List.cons_append,List.nil_append]
end Sp
namespace Sp
variable{aLt:Nat->Func->Func}
theorem zfS(wd:Int)(cs:List (Int × Int))(h:okG wd cs=true):∃ W H:Nat,wd=W/\1<=W/\W<=5/\1<=H/\H<=5/\cs.length=W * H/\cs.length / W=H/\(cs.length:Int) / wd=H:=by
 simp only[okG,zcw,Bool.and_eq_true,decide_eq_true_eq] at h
 obtain⟨⟨h1,h2,h3,h4,h5⟩,_⟩:=h
 obtain⟨W,rfl⟩:=Int.eq_ofNat_of_zero_le (show 0<=wd by omega)
 refine⟨W,cs.length / W,rfl,by omega,by omega,?_,?_,?_,rfl,by simp⟩
 all_goals
  rcases (show W=1\/W=2\/W=3\/W=4\/W=5 by omega) with rfl|rfl|rfl|rfl|rfl <;> omega
theorem zp6(wd:Int)(cs:List (Int × Int))(h:okG wd cs=true)(k:Nat)(hk:k<cs.length):okC cs[k].1 cs[k].2=true:=by
 simp only[okG,Bool.and_eq_true,List.all_eq_true] at h
 exact h.2 cs[k] (List.getElem_mem hk)
end Sp
namespace Sp
variable{aLt:Nat->Func->Func}
open Go.RowKit
theorem zbp(d:Int)(w:World) :
  Calls (SqG.prog aLt) 147 #[.int .i64 d] w fun e w'=>e=.returned (.bool (inB d 0 3))/\w'=w:=by
 by_cases h1:0<=d
 ·by_cases h2:d<=3
  all_goals
   go_enter SqG.func147,Tryz.ntmps147
   go_wp2
   go_ret
   exact⟨by simp[inB,h1,h2],rfl⟩
 ·go_enter SqG.func147,Tryz.ntmps147
  go_wp2
  go_ret
  exact⟨by simp[inB];omega,rfl⟩
theorem zc5(W H:Nat)(a:Option Addr)(n cap:Nat)(w:World)(hW:1<=W)(hn:n<=1048576)(hH:n / W=H) :
  Calls (SqG.prog aLt) 83 #[.agg #[.int .i64 (W:Int),.slice a n cap]] w fun e w'=>e=.returned (.int .i64 (H:Int))/\Below w.heap.size w w':=by
 have h0:(0:Int)<=(n:Int) / (W:Int):=Int.ediv_nonneg (by omega) (by omega)
 have h1:(n:Int) / (W:Int)<=n:=Int.ediv_le_self _ (by omega)
 have hw:(1:Int)<=(W:Int):=by omega
 have HH:Hid ((n:Int) / (W:Int)=(H:Int)):=by show _=_;rw[<- hH];simp
 clear hH
 go_enter SqG.func83,Tryz.ntmps83
 go_wp2
 go_ret
 exact⟨by rw[<- HH.out];rfl,bel⟩
theorem zcv(W H:Nat)(a:Option Addr)(n cap:Nat)(w:World)(hW:1<=W)(hn:n<=1048576)(hH:n / W=H) :
  Calls (SqG.prog aLt) 82 #[.agg #[.int .i64 (W:Int),.slice a n cap]] w fun e w'=>e=.returned (.int .i64 (H:Int))/\Below w.heap.size w w':=by
 have h0:(0:Int)<=(n:Int) / (W:Int):=Int.ediv_nonneg (by omega) (by omega)
 have h1:(n:Int) / (W:Int)<=n:=Int.ediv_le_self _ (by omega)
 have hw:(1:Int)<=(W:Int):=by omega
 have HH:Hid ((n:Int) / (W:Int)=(H:Int)):=by show _=_;rw[<- hH];simp
 clear hH
 go_enter SqG.func82,Tryz.ntmps82
 go_wp2
 go_ret
 exact⟨by rw[<- HH.out];rfl,bel⟩
def inP(x:Int)(n:Nat):Bool:=decide (0<=x/\x<n)
theorem zb3(x wd:Int)(a:Option Addr)(n cap:Nat)(hm:n<=9223372036854775807)(w:World) :
  Calls (SqG.prog aLt) 80 #[.agg #[.int .i64 wd,.slice a n cap],.int .i64 x] w fun e w'=>e=.returned (.bool (inP x n))/\Below w.heap.size w w':=by
 by_cases h1:0<=x
 ·by_cases h2:x<(n:Int)
  all_goals
   go_enter SqG.func80,Tryz.ntmps80
   go_wp2
   go_ret
   exact⟨by simp[inP,h1,h2],bel⟩
 ·go_enter SqG.func80,Tryz.ntmps80
  go_wp2
  go_ret
  exact⟨by simp[inP];omega,bel⟩
theorem zak.set(h:zak w a cs){bb j:Nat}(hne:∀ b off,a=some ⟨b,off,none⟩->b≠bb)(u:Value):zak (w.setCell ⟨bb,j,none⟩ u) a cs:=by
 rcases h with h|⟨b,off,rfl,hbl,hc⟩
 ·exact Or.inl h
 ·refine Or.inr ⟨b,off,rfl,by simpa [World.setCell] using hbl,fun i hi=>?_⟩
  have:=hne b off rfl
  exact⟨zo6 this (hc i hi).1,zo6 this (hc i hi).2⟩
