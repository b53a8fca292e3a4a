/- Part. -/
import Derived.WalkKit
import Derived.WalkLawsBesides
import Derived.Deep.Draws
import Derived.Deep.RegionHeld3
import Derived.Laws.CopyOwn
import Derived.Deep.RegionLaw
import Derived.Test.YthfhlgdeghnggaaGreatEAf
set_option maxHeartbeats 2000000
set_option maxRecDepth 4000
set_option linter.unusedVariables false
namespace Go.Proofs.YthfhlgdeghnggaaGreat
variable{a:Act}{K:Act->Wq}{xs:List Value}{cs:Lp}{B b cap g n o:Nat}{P:Program}{v:Value}{W w w' w1:World}
open Tryz
namespace Sp
variable{aLt:Nat->Func->Func}
open Go.RowKit
theorem zup(hb:xE W w1):(∀ b o,b<W.heap.size->w1.cell? (O b o)=W.cell? (O b o))/\(∀ b o,b<W.heap.size->w1.frozen? (O b o)=W.frozen? (O b o)) :=
 ⟨fun b o h=>hb.cell (p:=(O b o)) h,fun b o h=>hb.frozen (p:=(O b o)) h⟩
theorem zae{w2:World}(h:Below B w w1)(hB:B<=w1.heap.size)(h2:xE w1 w2):Below B w w2 :=
 h.trans (h2.mono hB)
theorem zaa(hb:xE W w1)(h:W.cell? (O b o)=some v):w1.cell? (O b o)=some v :=
 (hb.cell (World.block_lt_of_cell? W _ h)).trans h
theorem zak(hb:xE W w1){c:Bool}(h:W.cell? (O b o)=some v)(hf:W.frozen? (O b o)=c):w1.frozen? (O b o)=c :=
 (hb.frozen (World.block_lt_of_cell? W _ h)).trans hf
theorem zcq(h:Below w.drew.heap.size w.drew w'):xE w w':=⟨h.os,h.tape,h.output,h.size,h.block⟩
theorem zua{j:Nat}{u:Value}(h0:b≠g)(h:w.cell? (O b o)=some v):(w.setCell (O g j) u).cell? (O b o)=some v:=by
 rw[World.cell?_of_block (w:=w) (Below.heap_setCell w (O g j) u b h0)]
 exact h
def okC(k l:Int):Bool:=if k=7 then decide (1<=l/\l<=9) else decide (0<=k/\k<=6/\l=0)
theorem zrd(k l:Int)(h:k<0\/7<k):okC k l=false:=by
 unfold okC
 rw[if_neg qg]
 simp
 omega
def inB(n a b:Int):Bool:=decide (a<=n/\n<=b)
theorem zbc(n a b:Int)(w:World) :
  Calls (SqG.prog aLt) 61 #[J n,J a,J b] w fun e w'=>e=.returned (.bool (inB n a b))/\w'=w:=by
 by_cases h1:a<=n
 ·by_cases h2:n<=b
  ·go_enter (zfx func61),ntmps61
   go_wp2
   go_ret
   exact⟨by simp[inB,h1,h2],rfl⟩
  ·go_enter (zfx func61),ntmps61
   go_wp2
   go_ret
   exact⟨by simp[inB,h1,h2],rfl⟩
 ·go_enter (zfx func61),ntmps61
  go_wp2
  go_ret
  exact⟨by simp[inB];omega,rfl⟩
theorem zcw(k l:Int)(w:World) :
  Calls (SqG.prog aLt) 60 #[.agg #[J k,J l]] w (xB w (.bool (okC k l))):=by
 by_cases h7:k=7
 ·subst h7
  go_enter (zfx func60),ntmps60
  go_wp2_with (go_at_call 61;refine(zbc _ _ _ _).mono ?_;rintro e w' ⟨rfl,rfl⟩)
  go_ret
  exact⟨by simp[okC,inB],bel⟩
 ·by_cases h1:0<=k/\k<=6
  ·have hi:inB k 0 6=true:=by simp[inB,h1]
   by_cases hl:l=0
   all_goals
    go_enter (zfx func60),ntmps60
    go_wp2_with (go_at_call 61;refine(zbc _ _ _ _).mono ?_;rintro e w' ⟨rfl,rfl⟩)
    go_ret
    exact⟨by simp[okC,h7,h1,hl],bel⟩
  ·have hi:inB k 0 6=false:=by simp[inB];omega
   go_enter (zfx func60),ntmps60
   go_wp2_with (go_at_call 61;refine(zbc _ _ _ _).mono ?_;rintro e w' ⟨rfl,rfl⟩)
   go_ret
   exact⟨by simp[okC,h7];omega,bel⟩
theorem znc(w:World):Sem.run (SqG.prog aLt) (method 343 183 (Value.agg #[]) "loop.example/lucarne/impl.mayShine") w=.ok (176,.agg #[]) w:=qh
theorem znf(w:World):Sem.run (SqG.prog aLt) (method 343 184 (Value.agg #[]) "loop.example/lucarne/impl.mayShine") w=.ok (176,.agg #[]) w:=qh
theorem zkR(w:World):Sem.run (SqG.prog aLt) (method 343 185 (Value.agg #[]) "loop.example/lucarne/impl.mayShine") w=.ok (176,.agg #[]) w:=qh
theorem znb(w:World):Sem.run (SqG.prog aLt) (method 343 186 (Value.agg #[]) "loop.example/lucarne/impl.mayShine") w=.ok (176,.agg #[]) w:=qh
theorem zkQ(w:World):Sem.run (SqG.prog aLt) (method 343 187 (Value.agg #[]) "loop.example/lucarne/impl.mayShine") w=.ok (176,.agg #[]) w:=qh
theorem zne(w:World):Sem.run (SqG.prog aLt) (method 343 188 (Value.agg #[]) "loop.example/lucarne/impl.mayShine") w=.ok (176,.agg #[]) w:=qh
theorem zpw(w:World):Sem.run (SqG.prog aLt) (method 343 189 (Value.agg #[]) "loop.example/lucarne/impl.mayShine") w=.ok (176,.agg #[]) w:=qh
theorem znd(w:World):Sem.run (SqG.prog aLt) (method 343 190 (Value.agg #[]) "loop.example/lucarne/impl.mayShine") w=.ok (184,.agg #[]) w:=qh
theorem zfQ(l:Int)(w:World) :
  Calls (SqG.prog aLt) 79 #[.agg #[J 0,J l]] w (xB w (.bool (okC 0 l))):=by
 have hs:=znc (aLt:=aLt)
 go_enter (zfx func79),ntmps79
 go_wp2_with (first|(go_at_call 94;go_enter (zfx func94),ntmps94)|(go_at_call 176;go_enter (zfx func176),ntmps176)|fail)
 go_ret
 exact⟨by simp[okC];rfl,bel⟩
theorem zfU(l:Int)(w:World) :
  Calls (SqG.prog aLt) 79 #[.agg #[J 1,J l]] w (xB w (.bool (okC 1 l))):=by
 have hs:=znf (aLt:=aLt)
 go_enter (zfx func79),ntmps79
 go_wp2_with (first|(go_at_call 94;go_enter (zfx func94),ntmps94)|(go_at_call 176;go_enter (zfx func176),ntmps176)|fail)
 go_ret
 exact⟨by simp[okC];rfl,bel⟩
theorem zfc(l:Int)(w:World) :
  Calls (SqG.prog aLt) 79 #[.agg #[J 2,J l]] w (xB w (.bool (okC 2 l))):=by
 have hs:=zkR (aLt:=aLt)
 go_enter (zfx func79),ntmps79
 go_wp2_with (first|(go_at_call 94;go_enter (zfx func94),ntmps94)|(go_at_call 176;go_enter (zfx func176),ntmps176)|fail)
 go_ret
 exact⟨by simp[okC];rfl,bel⟩
theorem zfP(l:Int)(w:World) :
  Calls (SqG.prog aLt) 79 #[.agg #[J 3,J l]] w (xB w (.bool (okC 3 l))):=by
 have hs:=znb (aLt:=aLt)
 go_enter (zfx func79),ntmps79
 go_wp2_with (first|(go_at_call 94;go_enter (zfx func94),ntmps94)|(go_at_call 176;go_enter (zfx func176),ntmps176)|fail)
 go_ret
 exact⟨by simp[okC];rfl,bel⟩
theorem zfb(l:Int)(w:World) :
  Calls (SqG.prog aLt) 79 #[.agg #[J 4,J l]] w (xB w (.bool (okC 4 l))):=by
 have hs:=zkQ (aLt:=aLt)
 go_enter (zfx func79),ntmps79
 go_wp2_with (first|(go_at_call 94;go_enter (zfx func94),ntmps94)|(go_at_call 176;go_enter (zfx func176),ntmps176)|fail)
 go_ret
 exact⟨by simp[okC];rfl,bel⟩
theorem zfT(l:Int)(w:World) :
  Calls (SqG.prog aLt) 79 #[.agg #[J 5,J l]] w (xB w (.bool (okC 5 l))):=by
 have hs:=zne (aLt:=aLt)
 go_enter (zfx func79),ntmps79
 go_wp2_with (first|(go_at_call 94;go_enter (zfx func94),ntmps94)|(go_at_call 176;go_enter (zfx func176),ntmps176)|fail)
 go_ret
 exact⟨by simp[okC];rfl,bel⟩
theorem zgV(l:Int)(w:World) :
  Calls (SqG.prog aLt) 79 #[.agg #[J 6,J l]] w (xB w (.bool (okC 6 l))):=by
 have hs:=zpw (aLt:=aLt)
 go_enter (zfx func79),ntmps79
 go_wp2_with (first|(go_at_call 94;go_enter (zfx func94),ntmps94)|(go_at_call 176;go_enter (zfx func176),ntmps176)|fail)
 go_ret
 exact⟨by simp[okC];rfl,bel⟩
theorem zfR(l:Int)(w:World) :
  Calls (SqG.prog aLt) 79 #[.agg #[J 7,J l]] w (xB w (.bool (okC 7 l))):=by
 have hs:=znd (aLt:=aLt)
 by_cases h1:1<=l
 ·by_cases h2:l<=9
  all_goals
   go_enter (zfx func79),ntmps79
   go_wp2_with (first|(go_at_call 94;go_enter (zfx func94),ntmps94)|(go_at_call 184;go_enter (zfx func184),ntmps184)|fail)
   go_ret
   exact⟨by simp[okC,h1,h2],bel⟩
 ·go_enter (zfx func79),ntmps79
  go_wp2_with (first|(go_at_call 94;go_enter (zfx func94),ntmps94)|(go_at_call 184;go_enter (zfx func184),ntmps184)|fail)
  go_ret
  exact⟨by simp[okC];omega,bel⟩
theorem zfS(k l:Int)(h:k<0\/7<k)(w:World) :
  Calls (SqG.prog aLt) 79 #[.agg #[J k,J l]] w (xB w (.bool (okC k l))):=by
 go_enter (zfx func79),ntmps79
 go_wp2_with (first|(go_at_call 94;go_enter (zfx func94),ntmps94)|fail)
 go_ret
 exact⟨by rw[zrd k l h];rfl,bel⟩
theorem zbl(k l:Int)(w:World) :
  Calls (SqG.prog aLt) 79 #[.agg #[J k,J l]] w (xB w (.bool (okC k l))):=by
 by_cases h:k<0\/7<k
 ·exact zfS k l h w
 ·rcases (show k=0\/k=1\/k=2\/k=3\/k=4\/k=5\/k=6\/k=7 by omega) with rfl|rfl|rfl|rfl|rfl|rfl|rfl|rfl
  ·exact zfQ l w
  ·exact zfU l w
  ·exact zfc l w
  ·exact zfP l w
  ·exact zfb l w
  ·exact zfT l w
  ·exact zgV l w
  ·exact zfR l w
def zaf(w:World)(a:Od)(cs:Lp):Prop :=
 cs=[]\/∃ b off,a=some (O b off)/\b<w.heap.size/\∀ i,i<cs.length ->
  w.cell? (O b (off+i * 2))=some (J (cs.getD i (0,0)).1)/\w.cell? (O b (off+i * 2+1))=some (J (cs.getD i (0,0)).2)
def zcv(wd:Int)(n:Int):Bool:=decide (1<=wd/\wd<=5/\n % wd=0/\1<=n / wd/\n / wd<=5)
def okG(wd:Int)(cs:Lp):Bool:=zcv wd cs.length && cs.all fun c=>okC c.1 c.2
theorem zlm(cs:Lp)(k:Nat)(h:k<cs.length)(p:Int × Int->Bool):(cs.take (k+1)).all p=((cs.take k).all p && p cs[k]):=by
 rw[List.take_succ_eq_append_getElem h,List.all_append]
 simp only[List.all_cons,List.all_nil,Bool.and_true]
theorem zck(wd:Int)(cs:Lp)(h:zcv wd cs.length=false):okG wd cs=false:=by simp[okG,h]
theorem zse(wd:Int)(cs:Lp)(k:Nat)(h:k<cs.length)(hk:okC cs[k].1 cs[k].2=false):okG wd cs=false:=by
 have:(cs.all fun c=>okC c.1 c.2)=false:=by
  rw[List.all_eq_false]
  exact⟨cs[k],List.getElem_mem _,by simp[hk]⟩
 simp[okG,this]
theorem zo2(wd:Int)(cs:Lp)(h:zcv wd cs.length=true)(hk:(cs.all fun c=>okC c.1 c.2)=true):okG wd cs=true:=by simp only[okG,h,hk,Bool.and_self]
theorem zar(wd:Int)(a:Od)(cap:Nat)(cs:Lp)(w:World)(h:zaf w a cs)(hm:cs.length<=4611686018427387904) :
  Calls (SqG.prog aLt) 71 #[.agg (xG wd a cs.length cap)] w (xB w (.bool (okG wd cs))):=by
 by_cases h1:1<=wd
 ·have hf:0<=(cs.length:Int) / wd:=Int.ediv_nonneg qg qg
  have hg:(cs.length:Int) / wd<=cs.length:=Int.ediv_le_self _ qg
  by_cases h2:wd<=5
  ·by_cases h3:(cs.length:Int) % wd=0
   ·by_cases h4:1<=(cs.length:Int) / wd
    ·by_cases h5:(cs.length:Int) / wd<=5
     ·have h9:cs≠[]:=by intro hx;subst hx;simp at h4
      have HS:Hid (zcv wd cs.length=true):=by show zcv wd cs.length=true;simp[zcv,h1,h2,h3,h4,h5]
      rcases h with h|⟨b,off,rfl,he,h7⟩
      ·exact absurd h h9
      go_enter (zfx func71),ntmps71
      go_wp2_with (first|(go_at_call 83;go_enter (zfx func83),ntmps83)|fail)
      go_loopw [33] (fun i wr=>∃ k:Nat,k<=cs.length/\i=J k/\((cs.take k).all fun c=>okC c.1 c.2)=true/\xE w wr) (fun i _=>cs.length - (intOf i).toNat)
      case atStart=>exact⟨0,Nat.zero_le _,rfl,qm,bel⟩
      case round =>
       obtain⟨k,hk,rfl,h0,hb⟩:=hrel
       by_cases hlt:k<cs.length
       ·obtain⟨hx,hy⟩:=h7 k hlt
        rw[<- hb.cell (p:=(O b _)) he] at hx hy
        have HA:Hid (((cs.take (k+1)).all fun c=>okC c.1 c.2)=okC cs[k].1 cs[k].2):=by show _=_;rw[zlm cs k hlt,h0];simp
        clear h0
        have h8:=hb.size
        by_cases hok:okC cs[k].1 cs[k].2=true
        ·go_wp2_with fail
         refine(zbl _ _ _).mono ?_
         rintro e w2 ⟨rfl,h6⟩
         go_wp2_with (first|(go_at_call 83;go_enter (zfx func83),ntmps83)|fail)
         go_roundw
         case rel=>exact⟨k+1,qg,by go_num,by rw[HA.o];exact hok,zae (hb.alloc h8 _) qn h6⟩
         case measure=>exact qe
        ·have hok':okC cs[k].1 cs[k].2=false:=by simpa using hok
         clear hok
         go_wp2_with fail
         refine(zbl _ _ _).mono ?_
         rintro e w2 ⟨rfl,h6⟩
         go_wp2_with (first|(go_at_call 83;go_enter (zfx func83),ntmps83)|fail)
         go_ret
         exact⟨by rw[zse wd cs k hlt hok'];rfl,zae (hb.alloc h8 _) qn h6⟩
       ·go_wp2_with (first|(go_at_call 83;go_enter (zfx func83),ntmps83)|fail)
        go_ret
        exact⟨by rw[zo2 wd cs HS.o (by rw[List.take_of_length_le qg] at h0;exact h0)];rfl,hb⟩
     ·go_enter (zfx func71),ntmps71
      go_wp2_with (first|(go_at_call 83;go_enter (zfx func83),ntmps83)|fail)
      go_ret
      exact⟨by rw[zck wd cs (by simp[zcv];omega)];rfl,bel⟩
    ·go_enter (zfx func71),ntmps71
     go_wp2_with (first|(go_at_call 83;go_enter (zfx func83),ntmps83)|fail)
     go_ret
     exact⟨by rw[zck wd cs (by simp[zcv];omega)];rfl,bel⟩
   ·go_enter (zfx func71),ntmps71
    go_wp2_with (first|(go_at_call 83;go_enter (zfx func83),ntmps83)|fail)
    go_ret
    exact⟨by rw[zck wd cs (by simp[zcv];omega)];rfl,bel⟩
  ·go_enter (zfx func71),ntmps71
   go_wp2_with (first|(go_at_call 83;go_enter (zfx func83),ntmps83)|fail)
   go_ret
   exact⟨by rw[zck wd cs (by simp[zcv];omega)];rfl,bel⟩
 ·go_enter (zfx func71),ntmps71
  go_wp2_with (first|(go_at_call 83;go_enter (zfx func83),ntmps83)|fail)
  go_ret
  exact⟨by rw[zck wd cs (by simp[zcv];omega)];rfl,bel⟩
theorem zbK(wd:Int)(a:Od)(cap:Nat)(cs:Lp)(w:World)(h:zaf w a cs)(hm:cs.length<=4611686018427387904) :
  Calls (SqG.prog aLt) 69 #[.agg (xG wd a cs.length cap)] w (xB w (.bool (okG wd cs))):=by
 by_cases h1:1<=wd/\wd<=5
 ·obtain⟨h1,h2⟩:=h1
  have hl:0<=(cs.length:Int) / wd:=Int.ediv_nonneg qg qg
  have hp:(cs.length:Int) / wd<=cs.length:=Int.ediv_le_self _ qg
  have h9:inB wd 1 5=true:=by simp[inB,h1,h2]
  by_cases h3:(cs.length:Int) % wd=0
  ·by_cases h4:1<=(cs.length:Int) / wd/\(cs.length:Int) / wd<=5
   ·obtain⟨h4,h5⟩:=h4
    have he:inB ((cs.length:Int) / wd) 1 5=true:=by simp[inB,h4,h5]
    have hf:cs≠[]:=by intro hx;subst hx;simp at h4
    have HS:Hid (zcv wd cs.length=true):=by show zcv wd cs.length=true;simp[zcv,h1,h2,h3,h4,h5]
    rcases h with h|⟨b,off,rfl,hg,h7⟩
    ·exact absurd h hf
    go_enter (zfx func69),ntmps69
    go_wp2_with (go_at_call 61;refine(zbc _ _ _ _).mono ?_;rintro e w' ⟨rfl,rfl⟩)
    go_loopw [3] (fun i wr=>∃ k:Nat,k<=cs.length/\i=J k/\((cs.take k).all fun c=>okC c.1 c.2)=true/\xE w wr/\w.heap.size<wr.heap.size/\wr.cell? (xC w 1)=some (.slice (some (O b off)) cs.length cap)) (fun i _=>cs.length - (intOf i).toNat)
    case atStart=>exact⟨0,Nat.zero_le _,rfl,qm,bel,qm,qm⟩
    case round =>
     obtain⟨k,hk,rfl,h0,hb,hj,h8⟩:=hrel
     by_cases hlt:k<cs.length
     ·obtain⟨hx,hy⟩:=h7 k hlt
      rw[<- hb.cell (p:=(O b _)) hg] at hx hy
      have HA:Hid (((cs.take (k+1)).all fun c=>okC c.1 c.2)=okC cs[k].1 cs[k].2):=by show _=_;rw[zlm cs k hlt,h0];simp
      clear h0
      by_cases hok:okC cs[k].1 cs[k].2=true
      ·go_wp2_with fail
       refine(zcw _ _ _).mono ?_
       rintro e w2 ⟨rfl,h6⟩
       have hq:=h6.size
       go_wp2
       go_roundw
       case rel=>exact⟨k+1,qg,by go_num,by rw[HA.o];exact hok,zae hb qg h6,qg,by rw[h6.cell (p:=(xC w 1)) hj];exact h8⟩
       case measure=>exact qe
      ·have hok':okC cs[k].1 cs[k].2=false:=by simpa using hok
       clear hok
       go_wp2_with fail
       refine(zcw _ _ _).mono ?_
       rintro e w2 ⟨rfl,h6⟩
       go_wp2
       go_ret
       exact⟨by rw[zse wd cs k hlt hok'];rfl,zae hb qg h6⟩
     ·go_wp2
      go_ret
      exact⟨by rw[zo2 wd cs HS.o (by rw[List.take_of_length_le qg] at h0;exact h0)];rfl,hb⟩
   ·have he:inB ((cs.length:Int) / wd) 1 5=false:=by simp[inB];omega
    go_enter (zfx func69),ntmps69
    go_wp2_with (go_at_call 61;refine(zbc _ _ _ _).mono ?_;rintro e w' ⟨rfl,rfl⟩)
    go_ret
    exact⟨by rw[zck wd cs (by simp[zcv];omega)];rfl,bel⟩
  ·go_enter (zfx func69),ntmps69
   go_wp2_with (go_at_call 61;refine(zbc _ _ _ _).mono ?_;rintro e w' ⟨rfl,rfl⟩)
   go_ret
   exact⟨by rw[zck wd cs (by simp[zcv];omega)];rfl,bel⟩
 ·have h9:inB wd 1 5=false:=by simp[inB];omega
  go_enter (zfx func69),ntmps69
  go_wp2_with (go_at_call 61;refine(zbc _ _ _ _).mono ?_;rintro e w' ⟨rfl,rfl⟩)
  go_ret
  exact⟨by rw[zck wd cs (by simp[zcv];omega)];rfl,bel⟩
theorem zfm:((SqG.prog aLt).info? 48).map (fun i=>(i.zero,i.size,i.bytes))=some (some (.agg #[J 0,J 0]),2,16):=qh
def flat(cs:Lp):List Value:=cs.flatMap fun c=>[J c.1,J c.2]
def Own(w:World)(B:Nat)(v:Value)(cs:Lp):Prop:=w.ownsRow B 48 2 v cs.length (flat cs)
theorem zfj(cs:Lp):(flat cs).length=cs.length * 2:=by
 induction cs with
 | nil=>rfl
 | cons c r ih=>simp only[flat,List.flatMap_cons,List.length_append,List.length_cons,List.length_nil] at ih ⊢;omega
theorem zeg(c:Int × Int)(r:Lp):flat (c::r)=J c.1::J c.2::flat r:=rfl
theorem zhS(cs:Lp):∀ i,i<cs.length->(flat cs)[i * 2]?=some (J (cs.getD i (0,0)).1)/\(flat cs)[i * 2+1]?=some (J (cs.getD i (0,0)).2):=by
 induction cs with
 | nil=>intro i h;simp at h
 | cons c r ih =>
  intro i h
  cases i with
  | zero=>exact⟨rfl,rfl⟩
  | succ i =>
   have:=ih i (by simpa using h)
   rw[zeg]
   refine⟨?_,?_⟩
   ·rw[show (i+1) * 2=i * 2+1+1 by omega];simpa using this.1
   ·rw[show (i+1) * 2+1=i * 2+1+1+1 by omega];simpa using this.2
theorem zqJ(cs:Lp):∀ i (x y:Int),i<cs.length->((flat cs).set (i * 2) (J x)).set (i * 2+1) (J y)=flat (cs.set i (x,y)):=by
 induction cs with
 | nil=>intro i x y h;simp at h
 | cons c r ih =>
  intro i x y h
  cases i with
  | zero=>rfl
  | succ i =>
   have:=ih i x y (by simpa using h)
   rw[zeg,show (i+1) * 2=i * 2+1+1 by omega]
   simp only[List.set_cons_succ,zeg]
   rw[this]
theorem Own.below(h:Own w B v cs)(hb:xE w w'):Own w' B v cs:=by
 obtain⟨h1,h2⟩:=h
 refine⟨h1,?_⟩
 rcases h2 with h2|⟨g,cap,cur,hv,hg,hh,r⟩
 ·exact Or.inl h2
 ·exact Or.inr ⟨g,cap,cur,hv,hg,by rw[hb.block g (gei hh).1];exact hh,r⟩
theorem Own.slice(h:Own w B v cs):∃ a cap,v=.slice a cs.length cap/\zaf w a cs:=by
 obtain⟨h1,h2⟩:=h
 rcases h2 with ⟨rfl,h2⟩|⟨g,cap,cur,rfl,hg,hh,r⟩
 ·exact⟨none,0,by rw[h2],Or.inl (List.length_eq_zero_iff.1 h2)⟩
 ·have hO:w.ownsRow B 48 2 (.slice (xA g) cs.length cap) cs.length (flat cs):=⟨h1,Or.inr ⟨g,cap,cur,rfl,hg,hh,r⟩⟩
  refine⟨_,cap,rfl,Or.inr ⟨g,0,rfl,(gei hh).1,fun i hi=>?_⟩⟩
  have:=zhS cs i hi
  rw[hO.cellAt _ qg,hO.cellAt _ qg,Nat.zero_add]
  exact this
theorem Own.lt(h:Own w B (.slice (xA g) n cap) cs):B<=g/\g<w.heap.size :=
 World.ownsRow.lt h g rfl
theorem Own.cell(h:Own w B (.slice (xA g) n cap) cs)(hn:cs.length=n)(i:Nat)(hi:i<n) :
  w.cell? (O g (i * 2))=some (J (cs.getD i (0,0)).1)/\w.cell? (O g (i * 2+1))=some (J (cs.getD i (0,0)).2)/\w.frozen? (O g (i * 2))=false/\w.frozen? (O g (i * 2+1))=false:=by
 subst hn
 have hO:w.ownsRow B 48 2 (.slice (xA g) cs.length cap) cs.length (flat cs):=h
 have:=zhS cs i hi
 exact⟨by rw[hO.cellAt _ qg];exact this.1,by rw[hO.cellAt _ qg];exact this.2,hO.frozenAt _,hO.frozenAt _⟩
theorem Own.set(h:Own w B (.slice (xA g) n cap) cs)(hn:cs.length=n)(i:Nat)(x y:Int)(hi:i<n) :
  Own ((w.setCell (O g (i * 2)) (J x)).setCell (O g (i * 2+1)) (J y)) B (.slice (xA g) n cap) (cs.set i (x,y)):=by
 subst hn
 have hO:w.ownsRow B 48 2 (.slice (xA g) cs.length cap) cs.length (flat cs):=h
 have h2:=((hO.stored (i * 2) (J x)).1.stored (i * 2+1) (J y)).1
 rw[zqJ cs i x y hi] at h2
 unfold Own
 rw[List.length_set]
 exact h2
theorem zq4(n:Nat):(madeCells #[Value.int .i64 0,Value.int .i64 0] (n * 2)).toList=flat (List.replicate n (0,0)):=by
 have h:∀ m,flat (List.replicate m (0,0))=List.replicate (m * 2) (Value.int .i64 0):=by
  intro m
  induction m with
  | zero=>rfl
  | succ m ih=>rw[List.replicate_succ,zeg,ih,show (m+1) * 2=m * 2+1+1 by omega];rfl
 rw[h]
 apply List.ext_getElem?
 intro j
 by_cases hj:j<n * 2
 ·have:j % 2=0\/j % 2=1:=qg
  rcases this with e|e <;> simp[madeCells,hj,e]
 ·simp[madeCells,hj]
theorem Own.alloc(h:Own w B v cs)(o:Obj):Own (w.alloc o) B v cs:=World.ownsRow.alloc h o
theorem Own.drew(h:Own w B v cs):Own w.drew B v cs:=h
theorem Own.mono{B':Nat}(h:Own w B v cs)(hB:B'<=B):Own w B' v cs:=by
 obtain⟨h1,h2⟩:=h
 refine⟨h1,?_⟩
 rcases h2 with h2|⟨g,cap,cur,hv,hg,r⟩
 ·exact Or.inl h2
 ·exact Or.inr ⟨g,cap,cur,hv,qg,r⟩
theorem zaf.below{a:Od}(h:zaf w a cs)(hb:xE w w'):zaf w' a cs:=by
 rcases h with h|⟨b,off,rfl,h0,hc⟩
 ·exact Or.inl h
 ·refine Or.inr ⟨b,off,rfl,nll h0 hb.size,fun i hi=>?_⟩
  rw[hb.cell (p:=(O b _)) h0,hb.cell (p:=(O b _)) h0]
  exact hc i hi
theorem zrr(cs:Lp)(k:Nat)(h:k<cs.length):(cs.take k++List.replicate (cs.length - k) (0,0)).set k (cs[k].1,cs[k].2)=cs.take (k+1)++List.replicate (cs.length - (k+1)) (0,0):=by
 rw[List.set_append_right _ _ qn,List.take_succ_eq_append_getElem h]
 have:(List.take k cs).length=k:=qn
 rw[this,Nat.sub_self,show cs.length - k=(cs.length - (k+1))+1 by omega,List.replicate_succ]
 simp only[List.set_cons_zero,List.append_assoc,List.cons_append,List.nil_append]
end Sp
namespace Sp
variable{aLt:Nat->Func->Func}
theorem zf7(wd:Int)(cs:Lp)(h:okG wd cs=true):∃ W H:Nat,wd=W/\1<=W/\W<=5/\1<=H/\H<=5/\cs.length=W * H/\cs.length / W=H/\(cs.length:Int) / wd=H:=by
 simp only[okG,zcv,Bool.and_eq_true,decide_eq_true_eq] at h
 obtain⟨⟨h1,h2,h3,h4,h5⟩,_⟩:=h
 obtain⟨W,rfl⟩:=Int.eq_ofNat_of_zero_le (show 0<=wd by omega)
 refine⟨W,cs.length / W,rfl,qg,qg,?_,?_,?_,rfl,qm⟩
 all_goals
  rcases (show W=1\/W=2\/W=3\/W=4\/W=5 by omega) with rfl|rfl|rfl|rfl|rfl <;> omega
theorem zre(wd:Int)(cs:Lp)(h:okG wd cs=true)(k:Nat)(hk:k<cs.length):okC cs[k].1 cs[k].2=true:=by
 simp only[okG,Bool.and_eq_true,List.all_eq_true] at h
 exact h.2 cs[k] (List.getElem_mem hk)
end Sp
namespace Sp
variable{aLt:Nat->Func->Func}
open Go.RowKit
theorem zcE(d:Int)(w:World) :
  Calls (SqG.prog aLt) 147 #[J d] w fun e w'=>e=.returned (.bool (inB d 0 3))/\w'=w:=by
 by_cases h1:0<=d
 ·by_cases h2:d<=3
  all_goals
   go_enter (zfx func147),ntmps147
   go_wp2
   go_ret
   exact⟨by simp[inB,h1,h2],rfl⟩
 ·go_enter (zfx func147),ntmps147
  go_wp2
  go_ret
  exact⟨by simp[inB];omega,rfl⟩
theorem zdo(W H:Nat)(a:Od)(n cap:Nat)(w:World)(hW:1<=W)(hn:n<=1048576)(hH:n / W=H) :
  Calls (SqG.prog aLt) 83 #[.agg (xG (W:Int) a n cap)] w (xB w (J (H:Int))):=by
 have h0:(0:Int)<=(n:Int) / (W:Int):=Int.ediv_nonneg qg qg
 have h1:(n:Int) / (W:Int)<=n:=Int.ediv_le_self _ qg
 have hw:(1:Int)<=(W:Int):=qg
 have HH:Hid ((n:Int) / (W:Int)=(H:Int)):=by show _=_;rw[<- hH];simp
 clear hH
 go_enter (zfx func83),ntmps83
 go_wp2
 go_ret
 exact⟨by rw[<- HH.o];rfl,bel⟩
theorem zgd(W H:Nat)(a:Od)(n cap:Nat)(w:World)(hW:1<=W)(hn:n<=1048576)(hH:n / W=H) :
  Calls (SqG.prog aLt) 82 #[.agg (xG (W:Int) a n cap)] w (xB w (J (H:Int))):=by
 have h0:(0:Int)<=(n:Int) / (W:Int):=Int.ediv_nonneg qg qg
 have h1:(n:Int) / (W:Int)<=n:=Int.ediv_le_self _ qg
 have hw:(1:Int)<=(W:Int):=qg
 have HH:Hid ((n:Int) / (W:Int)=(H:Int)):=by show _=_;rw[<- hH];simp
 clear hH
 go_enter (zfx func82),ntmps82
 go_wp2
 go_ret
 exact⟨by rw[<- HH.o];rfl,bel⟩
def inP(x:Int)(n:Nat):Bool:=decide (0<=x/\x<n)
theorem zcS(x wd:Int)(a:Od)(n cap:Nat)(hm:n<=9223372036854775807)(w:World) :
  Calls (SqG.prog aLt) 80 #[.agg (xG wd a n cap),J x] w (xB w (.bool (inP x n))):=by
 by_cases h1:0<=x
 ·by_cases h2:x<(n:Int)
  all_goals
   go_enter (zfx func80),ntmps80
   go_wp2
   go_ret
   exact⟨by simp[inP,h1,h2],bel⟩
 ·go_enter (zfx func80),ntmps80
  go_wp2
  go_ret
  exact⟨by simp[inP];omega,bel⟩
theorem zaf.set{a:Od}(h:zaf w a cs){bb j:Nat}(h0:∀ b off,a=some (O b off)->b≠bb)(u:Value):zaf (w.setCell (O bb j) u) a cs:=by
 rcases h with h|⟨b,off,rfl,h1,hc⟩
 ·exact Or.inl h
 ·refine Or.inr ⟨b,off,rfl,by simpa [World.setCell] using h1,fun i hi=>?_⟩
  have:=h0 b off rfl
  exact⟨zua this (hc i hi).1,zua this (hc i hi).2⟩
def zdI(W H k:Int):Int × Int :=
 if k<W then (k,2) else if k - W<H then ((k - W) * W+W - 1,3) else if k - W - H<W then (W * H - 1 - (k - W - H),0) else (W * H - 1 - W+1 - (k - W - H - W) * W,1)
def ofN(W H x d:Int):Nat->Int
 | 0=>-1
 | n+1=>if ofN W H x d n≠-1 then ofN W H x d n else if (zdI W H n).1=x/\((zdI W H n).2+2) % 4=d then (n:Int) else -1
theorem zha(W H:Nat)(a:Od)(n cap:Nat)(w:World)(hW:1<=W/\W<=5)(h4:H<=5)(hn:n<=1048576)(hH:n / W=H) :
  Calls (SqG.prog aLt) 70 #[.agg (xG (W:Int) a n cap)] w (xB w (J (2 * ((W:Int)+(H:Int))))):=by
 have HH:Hid (n / W=H):=hH
 have w1:IntKind.i64.wrap ((W:Int)+(H:Int))=(W:Int)+(H:Int):=IntWalk.i64_in _ qg
 have w2:IntKind.i64.wrap (2 * ((W:Int)+(H:Int)))=2 * ((W:Int)+(H:Int)):=IntWalk.i64_in _ qg
 have h0:xE w (w.alloc (.cells (xG (W:Int) a n cap) 33)):=bel
 have g0:(w.alloc (.cells (xG (W:Int) a n cap) 33)).cell? (xC w 0)=some (J (W:Int)):=ql
 have g1:(w.alloc (.cells (xG (W:Int) a n cap) 33)).cell? (xC w 1)=some (.slice a n cap):=ql
 clear hH
 go_enter (zfx func70),ntmps70
 go_wp2
 obtain⟨w0,h2⟩:∃ w0,w0=w.alloc (.cells (xG (W:Int) a n cap) 33):=⟨_,rfl⟩
 rw[<- h2] at h0 g0 g1 ⊢
 clear h2
 go_region_held3 (fun w'=>w'.cell? (xC w 0)=some (J (W:Int))/\w'.cell? (xC w 1)=some (.slice a n cap))
  (first
   | with_reducible exact⟨zaa h1 g0,zaa h1 g1⟩
   | go_keep)
  (first
   | (go_at_call 82;refine(zgd W H _ _ _ _ hW.1 hn HH.o).mono ?_;rintro e w6 ⟨rfl,hb6'⟩;have h1:xE w0 w6:=(by first|with_reducible exact hb6'|with_reducible exact zcq hb6'))
   | fail)
 have h3:=zae h0 h0.size h1
 go_wp2
 go_ret
 exact⟨rfl,h3⟩
theorem zg9(d:Int)(h0:0<=d)(h3:d<=3)(w:World) :
  Calls (SqG.prog aLt) 153 #[J d] w fun e w'=>e=.returned (J ((d+2) % 4))/\w'=w:=by
 go_enter (zfx func153),ntmps153
 go_wp2
 go_ret
 exact⟨rfl,rfl⟩
theorem zi9(W H:Nat)(a:Od)(n cap:Nat)(w:World)(hW:1<=W/\W<=5)(h4:1<=H/\H<=5)(hl:n=W * H)(k:Int)(hk:0<=k/\k<=19)(x d:Int)(hv:zdI W H k=(x,d)) :
  Calls (SqG.prog aLt) 92 #[.agg (xG (W:Int) a n cap),J k] w (xB w (.agg #[J x,J d])):=by
 have hH:n / W=H:=by rw[hl];exact Nat.mul_div_cancel_left H qg
 have hn:n<=25:=by rw[hl];exact Nat.le_trans (Nat.mul_le_mul hW.2 h4.2) qg
 have HH:Hid (n / W=H):=hH
 have h2:(W:Int) * (H:Int)=(n:Int):=by rw[hl];simp
 simp only[zdI,h2] at hv
 clear hH hl h2
 go_enter (zfx func92),ntmps92
 go_wp2_with fail
 refine(zgd W H _ _ _ _ hW.1 qg HH.o).mono ?_
 rintro e w1 ⟨rfl,h0⟩
 have g0:w1.cell? (xC w 0)=some (J (W:Int)):=zaa h0 ql
 have g1:w1.cell? (xC w 1)=some (.slice a n cap):=zaa h0 ql
 have q0:w1.cell? (xD w 1 0)=some (J 0):=zaa h0 ql
 have q1:w1.cell? (xD w 1 1)=some (J 0):=zaa h0 ql
 have f0:w1.frozen? (xD w 1 0)=false:=zak h0 (v:=J 0) ql ql
 have f1:w1.frozen? (xD w 1 1)=false:=zak h0 (v:=J 0) ql ql
 have h1:xE w w1:=zae bel qn h0
 clear h0
 by_cases c1:k<(W:Int)
 ·rw[if_pos c1] at hv
  simp only[Prod.mk.injEq] at hv
  obtain⟨rfl,rfl⟩:=hv
  go_wp2
  refine bodyPost_ret (v:=.agg #[J k,J 2]) (by simp[results,results92,go_sem,q0,q1]) rfl ⟨rfl,?_⟩
  exact(h1.setCell (p:=(xD w 1 0)) qm _).setCell (p:=(xD w 1 1)) qm _
 rw[if_neg c1] at hv
 by_cases c2:k - (W:Int)<(H:Int)
 ·rw[if_pos c2] at hv
  simp only[Prod.mk.injEq] at hv
  obtain⟨hx,rfl⟩:=hv
  obtain⟨m,hm⟩:∃ m,(k - (W:Int)) * (W:Int)=m:=⟨_,rfl⟩
  have h5:0<=m/\m<=25:=by
   rw[<- hm]
   exact⟨Int.mul_nonneg qg qg,Int.le_trans (Int.mul_le_mul (show k - (W:Int)<=5 by omega) (show (W:Int)<=5 by omega) qg qg) qg⟩
  have v1:IntKind.i64.wrap ((k - (W:Int)) * (W:Int))=m:=by rw[hm];exact IntWalk.i64_in _ qg
  rw[hm] at hx
  have h3:m+(W:Int) - 1=x:=hx
  have c1':(W:Int)<=k:=qg
  clear hm c1 hx
  go_wp2
  refine bodyPost_ret (v:=.agg #[J x,J 3]) (by simp[results,results92,go_sem,q0,q1]) rfl ⟨rfl,?_⟩
  exact(h1.setCell (p:=(xD w 1 0)) qm _).setCell (p:=(xD w 1 1)) qm _
 rw[if_neg c2] at hv
 by_cases c3:k - (W:Int) - (H:Int)<(W:Int)
 ·rw[if_pos c3] at hv
  simp only[Prod.mk.injEq] at hv
  obtain⟨hx,rfl⟩:=hv
  have h3:(n:Int) - 1 - (k - (W:Int) - (H:Int))=x:=hx
  have c1':(W:Int)<=k:=qg
  have c2':(H:Int)<=k - (W:Int):=qg
  clear c1 c2 hx
  go_wp2
  refine bodyPost_ret (v:=.agg #[J x,J 0]) (by simp[results,results92,go_sem,q0,q1]) rfl ⟨rfl,?_⟩
  exact(h1.setCell (p:=(xD w 1 0)) qm _).setCell (p:=(xD w 1 1)) qm _
 ·rw[if_neg c3] at hv
  simp only[Prod.mk.injEq] at hv
  obtain⟨hx,rfl⟩:=hv
  obtain⟨m,hm⟩:∃ m,(k - (W:Int) - (H:Int) - (W:Int)) * (W:Int)=m:=⟨_,rfl⟩
  have h5:0<=m/\m<=95:=by
   rw[<- hm]
   exact⟨Int.mul_nonneg qg qg,Int.le_trans (Int.mul_le_mul (show k - (W:Int) - (H:Int) - (W:Int)<=19 by omega) (show (W:Int)<=5 by omega) qg qg) qg⟩
  have v1:IntKind.i64.wrap ((k - (W:Int) - (H:Int) - (W:Int)) * (W:Int))=m:=by rw[hm];exact IntWalk.i64_in _ qg
  rw[hm] at hx
  have h3:(n:Int) - 1 - (W:Int)+1 - m=x:=hx
  have c1':(W:Int)<=k:=qg
  have c2':(H:Int)<=k - (W:Int):=qg
  have c3':(W:Int)<=k - (W:Int) - (H:Int):=qg
  clear hm c1 c2 c3 hx
  go_wp2
  refine bodyPost_ret (v:=.agg #[J x,J 1]) (by simp[results,results92,go_sem,q0,q1]) rfl ⟨rfl,?_⟩
  exact(h1.setCell (p:=(xD w 1 0)) qm _).setCell (p:=(xD w 1 1)) qm _
theorem zlX(W H k x d:Int)(h:zdI W H k=(x,d)):0<=d/\d<=3:=by
 unfold zdI at h
 split at h
 ·simp only[Prod.mk.injEq] at h;omega
 ·split at h
  ·simp only[Prod.mk.injEq] at h;omega
  ·split at h <;> (simp only[Prod.mk.injEq] at h;omega)
theorem zsU(W H x d:Int)(k:Nat)(h0:ofN W H x d k=-1)(x2 d2:Int)(hs:zdI W H k=(x2,d2))(h1:x2=x)(h2:(d2+2) % 4=d)(m:Nat)(hm:k<m):ofN W H x d m=(k:Int):=by
 induction m with
 | zero=>omega
 | succ m ih =>
  by_cases h:k<m
  ·have e:=ih h
   simp only[ofN]
   rw[if_pos (by rw[e];omega),e]
  ·obtain rfl:m=k:=qg
   simp only[ofN]
   rw[if_neg (by simp[h0]),if_pos (by rw[hs];exact⟨h1,h2⟩)]
theorem zlM(W H x d:Int)(k:Nat)(h0:ofN W H x d k=-1)(x2 d2:Int)(hs:zdI W H k=(x2,d2))(h:¬ (x2=x/\(d2+2) % 4=d)):ofN W H x d (k+1)=-1:=by
 simp only[ofN]
 rw[if_neg (by simp[h0]),if_neg (by rw[hs];exact h)]
theorem zqZ(W H:Nat)(a:Od)(n cap:Nat)(w:World)(hW:1<=W/\W<=5)(h2:1<=H/\H<=5)(hl:n=W * H)(x d:Int) :
  Calls (SqG.prog aLt) 140 #[.agg (xG (W:Int) a n cap),J x,J d] w (xB w (J (ofN W H x d (2 * (W+H))))):=by
 have hH:n / W=H:=by rw[hl];exact Nat.mul_div_cancel_left H qg
 have hn:n<=25:=by rw[hl];exact Nat.le_trans (Nat.mul_le_mul hW.2 h2.2) qg
 have HH:Hid (n / W=H):=hH
 have HL:Hid (n=W * H):=hl
 obtain⟨M,hM⟩:∃ M:Nat,M=2 * (W+H):=⟨_,rfl⟩
 have HM:Hid (2 * ((W:Int)+(H:Int))=(M:Int)):=by show _=_;rw[hM];simp
 have hg:M<=20:=qg
 rw[<- hM]
 have CM:Hid (∀(w:World),Calls (SqG.prog aLt) 70 #[.agg (xG (W:Int) a n cap)] w (xB w (J (M:Int)))):=by
  intro w
  have:=zha (aLt:=aLt) W H a n cap w hW h2.2 qg hH
  rw[HM.o] at this
  exact this
 have h0:xE w (w.alloc (.cells (xG (W:Int) a n cap) 33)):=bel
 have g0:(w.alloc (.cells (xG (W:Int) a n cap) 33)).cell? (xC w 0)=some (J (W:Int)):=ql
 have g1:(w.alloc (.cells (xG (W:Int) a n cap) 33)).cell? (xC w 1)=some (.slice a n cap):=ql
 clear hH hl hM HM
 go_enter (zfx func140),ntmps140
 go_wp2
 obtain⟨w0,h6⟩:∃ w0,w0=w.alloc (.cells (xG (W:Int) a n cap) 33):=⟨_,rfl⟩
 rw[<- h6] at h0 g0 g1 ⊢
 clear h6
 go_loopw [7,8] (fun i l8 wr=>∃ k:Nat,k<=M/\i=J k/\ofN W H x d k=-1/\xE w0 wr) (fun i _ _=>M - (intOf i).toNat)
 case atStart=>exact⟨0,Nat.zero_le _,rfl,rfl,Below.refl _ _⟩
 case round =>
  obtain⟨k,hk,rfl,h7,hb⟩:=hrel
  have hz:=hb.size
  have hj:=h0.size
  replace g0:=zaa hb g0;replace g1:=zaa hb g1
  have HNO:Hid (ofN W H x d k=-1):=h7
  clear h7
  go_wp2_with fail
  refine(CM.o _).mono ?_
  rintro e w1 ⟨rfl,h1⟩
  have hp:=h1.size
  have h3:=zae hb hb.size h1
  replace g0:=zaa h1 g0;replace g1:=zaa h1 g1
  clear hb h1
  by_cases hlt:k<M
  ·obtain⟨x2,d2,hs⟩:∃ x2 d2,zdI W H (k:Int)=(x2,d2):=⟨_,_,rfl⟩
   have HS:Hid (zdI W H (k:Int)=(x2,d2)):=hs
   have h8:=zlX _ _ _ _ _ hs
   have h9:=h8.1
   have he:=h8.2
   clear hs
   go_wp2_with fail
   refine(zi9 W H a n cap _ hW h2 HL.o (k:Int) qg x2 d2 HS.o).mono ?_
   rintro e w2 ⟨rfl,h4⟩
   have hq:=h4.size
   have hf:=zae h3 h3.size h4
   have h5:xE w0 (w2.alloc (.cells #[J x2,J d2] 144)):=hf.alloc hf.size _
   clear h4
   by_cases e1:x2=x
   ·subst e1
    have b1:(x2 == x2)=true:=qm
    by_cases e2:(d2+2) % 4=d
    ·have HV:Hid (ofN W H x2 d M=(k:Int)):=zsU W H x2 d k HNO.o x2 d2 HS.o rfl e2 M hlt
     have b2:((d2+2) % 4 == d)=true:=by simp[e2]
     clear e2
     go_wp2_with fail
     refine(zg9 d2 h9 he _).mono ?_
     rintro e w' ⟨rfl,rfl⟩
     go_wp2
     go_ret
     exact⟨by rw[HV.o];rfl,zae h0 h0.size h5⟩
    ·have hv:=zlM W H x2 d k HNO.o x2 d2 HS.o (fun q=>e2 q.2)
     have b2:((d2+2) % 4 == d)=false:=by simp[e2]
     clear e2
     go_wp2_with fail
     refine(zg9 d2 h9 he _).mono ?_
     rintro e w' ⟨rfl,rfl⟩
     go_wp2
     go_roundw
     case rel=>exact⟨k+1,qg,by go_num,hv,h5⟩
     case measure=>exact qe
   ·have hv:=zlM W H x d k HNO.o x2 d2 HS.o (fun q=>e1 q.1)
    have b1:(x2 == x)=false:=by simp[e1]
    clear e1
    go_wp2
    go_roundw
    case rel=>exact⟨k+1,qg,by go_num,hv,h5⟩
    case measure=>exact qe
  ·obtain rfl:k=M:=qg
   go_wp2
   go_ret
   exact⟨by rw[HNO.o];rfl,zae h0 h0.size h3⟩
theorem zn8{ops:Array Oper}{rest:List Oper}{o:Oper}{Q:Exit->Act->Wq}(hj:o.guard=none)(d s:Operand)(dT sT:TypeId)(ho:o.op=.call { callee:=.builtin .copy,args:=#[d,s],argTypes:=#[dT,sT] })(e:TypeId)(hu:P.underlying dT=some (.slice e))(h3:(P.info? e).map (·.size)=some 2)(B g n cap:Nat)(xs:List Value)(ad:Addr)(sCap:Nat)(hd:a.eval d=.slice (some ⟨g,0,none⟩) n cap)(hs:a.eval s=.slice (some ad) n sCap)(h6:w.ownsRow B e 2 (.slice (some ⟨g,0,none⟩) n cap) n xs)(cs:List Value)(hn:cs.length=n * 2)(h7:∀ j v,cs[j]?=some v->w.cell? (ad.add j)=some v)(h1:∀ v∈cs,v.oneCell'=true)(h:∀ w',w'.ownsRow B e 2 (.slice (some ⟨g,0,none⟩) n cap) n cs->w.grownBy w' (some g)->wpList P ops Q rest (a.put o.dst (goInt n)) w'):wpList P ops Q (o::rest) a w:=by
 obtain⟨hx,hr⟩:=h6
 rcases hr with ⟨h0,_⟩|⟨g',cap',cur,hv,hB,hg,h2,hc2,h4,hw⟩
 ·simp at h0
 ·simp only[Value.slice.injEq,Option.some.injEq,Addr.mk.injEq,and_true,true_and] at hv
  obtain⟨rfl,rfl⟩:=hv
  refine wpList_plain hj fun K hK=>?_
  have hl:=run_loadCells_list (P:=P) w ad cs h7
  have h8:n * 2<=cur.size:=by rw[h4];exact Nat.mul_le_mul_right 2 h2
  have h5:=run_storeCells_at P g 0 e cs 0 cur w hg (by simp[hn];exact h8) h1
  have h9:(Builtin.copy_ #[dT,sT] o.type #[.slice (some ⟨g,0,none⟩) n cap,.slice (some ad) n sCap]).run P w=.ok (goInt n) (w.setRow g (cur.toList.take 0++cs++cur.toList.drop (0+cs.length)).toArray):=by
   cases hq:P.info? e with
   | none=>simp[hq] at h3
   | some i =>
    have hi:i.size=2:=by simpa [hq] using h3
    rw[hn] at hl
    simp only[Nat.add_zero] at h5
    simp[Builtin.copy_,run_underlying hu,Builtin.lenOf,Builtin.firstCells,sizeOf,typeInfo,hq,hi,hl,h5]
  unfold Oper.wp
  simp only[execOp,ho]
  simp[resolve,invoke,builtin,hd,hs,h9,Result.andThen]
  refine hK _ _ ?_
  have he:=setRow_heap w g cur (cs++cur.toList.drop cs.length).toArray e (0,0) hg
  have hf:(cs++cur.toList.drop cs.length).length=cap * 2:=by
   have hp:cur.toList.length=cap * 2:=by simpa using h4
   simp only[List.length_append,List.length_drop]
   rw[hp,hn]
   have:=Nat.mul_le_mul_right 2 h2
   omega
  have:=h (w.setRow g (cs++cur.toList.drop cs.length).toArray) ⟨hn,Or.inr ⟨g,cap,_,rfl,hB,he,h2,hc2,by simpa using hf,by rw[<- hn];simp⟩⟩
   ⟨rfl,rfl,rfl,by simp[World.setRow],fun k _ hk=>setRow_other w g k _ (fun ek=>hk (by simp[ek]))⟩
  simpa using this
theorem zsV(wd:Int)(cs:Lp)(h:okG wd cs=true):1<=wd/\wd<=5/\(cs.length:Int) % wd=0/\1<=(cs.length:Int) / wd/\(cs.length:Int) / wd<=5/\1<=cs.length/\cs.length<=25:=by
 simp only[okG,zcv,Bool.and_eq_true,decide_eq_true_eq] at h
 obtain⟨⟨h1,h2,h3,h4,h5⟩,_⟩:=h
 have hd:=Int.emod_add_mul_ediv (cs.length:Int) wd
 rw[h3] at hd
 rcases (show wd=1\/wd=2\/wd=3\/wd=4\/wd=5 by omega) with rfl|rfl|rfl|rfl|rfl <;> omega
theorem Own.other(h:Own w B (.slice (some ⟨g,0,none⟩) n cap) cs){p:Addr}(h0:g≠p.block)(u:Value):Own (w.setCell p u) B (.slice (some ⟨g,0,none⟩) n cap) cs:=by
 obtain⟨h1,h2⟩:=h
 refine⟨h1,?_⟩
 rcases h2 with ⟨h2,_⟩|⟨g',cap',cur,hv,hg,hh,r⟩
 ·simp at h2
 ·have hv':=hv
  simp only[Value.slice.injEq,Option.some.injEq,Addr.mk.injEq,and_true] at hv'
  exact Or.inr ⟨g',cap',cur,hv,hg,by rw[Below.heap_setCell _ _ _ _ (by rw[<- hv'.1];exact h0)];exact hh,r⟩
theorem zru:((SqG.prog aLt).info? 48).map (·.size)=some 2:=qh
theorem zlD(cs:Lp):∀ v∈flat cs,v.oneCell'=true:=by
 intro v hv
 simp only[flat,List.mem_flatMap,List.mem_cons,List.not_mem_nil,or_false] at hv
 obtain⟨c,_,rfl|rfl⟩:=hv <;> rfl
theorem ziJ{off:Nat}(h:∀ i,i<cs.length->w.cell? ⟨b,off+i * 2,none⟩=some (J (cs.getD i (0,0)).1)/\w.cell? ⟨b,off+i * 2+1,none⟩=some (J (cs.getD i (0,0)).2)) :
  ∀ j v,(flat cs)[j]?=some v->w.cell? ((⟨b,off,none⟩:Addr).add j)=some v:=by
 intro j v hv
 have h0:(⟨b,off,none⟩:Addr).add j=⟨b,off+j,none⟩:=by unfold Addr.add;split <;> simp_all
 rw[h0]
 have hj:j<cs.length * 2:=by
  rw[<- zfj]
  exact(List.getElem?_eq_some_iff.1 hv).1
 have hi:j / 2<cs.length:=qg
 have hf:=zhS cs (j / 2) hi
 have hc:=h (j / 2) hi
 rcases (show j=j / 2 * 2\/j=j / 2 * 2+1 by omega) with e|e
 ·rw[<- e] at hf hc
  rw[hf.1] at hv
  rw[hc.1];exact hv
 ·rw[<- e] at hf
  rw[hf.2] at hv
  rw[Nat.add_assoc,<- e] at hc
  rw[hc.2];exact hv
def zeb(wd:Int)(cs:Lp)(at_ k l:Int):Bool:=okG wd cs && (okC k l && decide (0<=at_/\at_<cs.length))
theorem zgW(wd:Int)(a:Od)(cap:Nat)(cs:Lp)(at_ k l:Int)(w:World)(hC:zaf w a cs)(hm:cs.length<=1048576)(h8:zeb wd cs at_ k l=false) :
  Calls (SqG.prog aLt) 65 #[.agg (xG wd a cs.length cap),J at_,.agg #[J k,J l]] w (xB w (.tuple #[.agg (xG 0 none 0 0),.bool false])):=by
 by_cases h1:okG wd cs=true
 ·by_cases h2:okC k l=true
  ·have h3:¬ (0<=at_/\at_<cs.length):=by simpa [zeb,h1,h2] using h8
   clear h8
   have hp:inP at_ cs.length=false:=decide_eq_false h3
   ·skip
    go_enter (zfx func65),ntmps65
    go_wp2_with fail
    refine(zar _ _ _ cs _ (hC.below bel) qg).mono ?_
    rintro e w1 ⟨rfl,h0⟩
    have h6:=h0.size
    simp at h6
    have h7:xE w w1:=zae bel qn h0
    have p0:w1.cell? ⟨w.heap.size,0,none⟩=some (J wd):=zaa h0 ql
    have p1:w1.cell? ⟨w.heap.size,1,none⟩=some (.slice a cs.length cap):=zaa h0 ql
    have p2:w1.cell? ⟨w.heap.size+1,0,none⟩=some (J k):=zaa h0 ql
    have p3:w1.cell? ⟨w.heap.size+1,1,none⟩=some (J l):=zaa h0 ql
    have p4:w1.cell? ⟨w.heap.size+1+1,0,none⟩=some (J 0):=zaa h0 ql
    have p5:w1.cell? ⟨w.heap.size+1+1,1,none⟩=some (.slice none 0 0):=zaa h0 ql
    have f4:w1.frozen? ⟨w.heap.size+1+1,0,none⟩=false:=zak h0 (v:=J 0) ql ql
    have f5:w1.frozen? ⟨w.heap.size+1+1,1,none⟩=false:=zak h0 (v:=.slice none 0 0) ql ql
    clear h0
    go_wp2_with fail
    refine(zbl _ _ _).mono ?_
    rintro e wk ⟨rfl,h5⟩
    have hg:=h5.size
    have he:xE w wk:=zae h7 qg h5
    replace f4:=zak h5 p4 f4;replace f5:=zak h5 p5 f5;replace p0:=zaa h5 p0;replace p1:=zaa h5 p1;replace p2:=zaa h5 p2;replace p3:=zaa h5 p3;replace p4:=zaa h5 p4;replace p5:=zaa h5 p5
    clear h5
    go_wp2_with fail
    refine(zcS _ _ _ _ _ qg _).mono ?_
    rintro e w2 ⟨rfl,h4⟩
    have hf:=h4.size
    have h9:xE w w2:=zae he qg h4
    replace f4:=zak h4 p4 f4;replace f5:=zak h4 p5 f5;replace p0:=zaa h4 p0;replace p1:=zaa h4 p1;replace p2:=zaa h4 p2;replace p3:=zaa h4 p3;replace p4:=zaa h4 p4;replace p5:=zaa h4 p5
    clear h4
    go_wp2
    refine bodyPost_ret (v:=.tuple #[.agg (xG 0 none 0 0),.bool false]) (by simp[results,results65,go_sem,p4,p5]) rfl ⟨rfl,?_⟩
    exact(h9.setCell qn _).setCell qn _
  ·have h2':okC k l=false:=by simpa using h2
   clear h2 h8
   go_enter (zfx func65),ntmps65
   go_wp2_with fail
   refine(zar _ _ _ cs _ (hC.below bel) qg).mono ?_
   rintro e w1 ⟨rfl,h0⟩
   have h6:=h0.size
   simp at h6
   have h7:xE w w1:=zae bel qn h0
   have p0:w1.cell? ⟨w.heap.size,0,none⟩=some (J wd):=zaa h0 ql
   have p1:w1.cell? ⟨w.heap.size,1,none⟩=some (.slice a cs.length cap):=zaa h0 ql
   have p2:w1.cell? ⟨w.heap.size+1,0,none⟩=some (J k):=zaa h0 ql
   have p3:w1.cell? ⟨w.heap.size+1,1,none⟩=some (J l):=zaa h0 ql
   have p4:w1.cell? ⟨w.heap.size+1+1,0,none⟩=some (J 0):=zaa h0 ql
   have p5:w1.cell? ⟨w.heap.size+1+1,1,none⟩=some (.slice none 0 0):=zaa h0 ql
   have f4:w1.frozen? ⟨w.heap.size+1+1,0,none⟩=false:=zak h0 (v:=J 0) ql ql
   have f5:w1.frozen? ⟨w.heap.size+1+1,1,none⟩=false:=zak h0 (v:=.slice none 0 0) ql ql
   clear h0
   go_wp2_with fail
   refine(zbl _ _ _).mono ?_
   rintro e w2 ⟨rfl,h4⟩
   have hf:=h4.size
   have h9:xE w w2:=zae h7 qg h4
   replace f4:=zak h4 p4 f4;replace f5:=zak h4 p5 f5;replace p0:=zaa h4 p0;replace p1:=zaa h4 p1;replace p2:=zaa h4 p2;replace p3:=zaa h4 p3;replace p4:=zaa h4 p4;replace p5:=zaa h4 p5
   clear h4
   go_wp2
   refine bodyPost_ret (v:=.tuple #[.agg (xG 0 none 0 0),.bool false]) (by simp[results,results65,go_sem,p4,p5]) rfl ⟨rfl,?_⟩
   exact(h9.setCell qn _).setCell qn _
 ·have h1':okG wd cs=false:=by simpa using h1
  clear h1 h8
  go_enter (zfx func65),ntmps65
  go_wp2_with fail
  refine(zar _ _ _ cs _ (hC.below bel) qg).mono ?_
  rintro e w1 ⟨rfl,h0⟩
  have h6:=h0.size
  simp at h6
  have h7:xE w w1:=zae bel qn h0
  have p0:w1.cell? ⟨w.heap.size,0,none⟩=some (J wd):=zaa h0 ql
  have p1:w1.cell? ⟨w.heap.size,1,none⟩=some (.slice a cs.length cap):=zaa h0 ql
  have p2:w1.cell? ⟨w.heap.size+1,0,none⟩=some (J k):=zaa h0 ql
  have p3:w1.cell? ⟨w.heap.size+1,1,none⟩=some (J l):=zaa h0 ql
  have p4:w1.cell? ⟨w.heap.size+1+1,0,none⟩=some (J 0):=zaa h0 ql
  have p5:w1.cell? ⟨w.heap.size+1+1,1,none⟩=some (.slice none 0 0):=zaa h0 ql
  have f4:w1.frozen? ⟨w.heap.size+1+1,0,none⟩=false:=zak h0 (v:=J 0) ql ql
  have f5:w1.frozen? ⟨w.heap.size+1+1,1,none⟩=false:=zak h0 (v:=.slice none 0 0) ql ql
  clear h0
  go_wp2
  refine bodyPost_ret (v:=.tuple #[.agg (xG 0 none 0 0),.bool false]) (by simp[results,results65,go_sem,p4,p5]) rfl ⟨rfl,?_⟩
  exact(h7.setCell qn _).setCell qn _
theorem zce(wd:Int)(a:Od)(cap:Nat)(cs:Lp)(w:World)(hC:zaf w a cs)(hm:cs.length<=1048576)(h5:0<cs.length) :
  Calls (SqG.prog aLt) 72 #[.agg (xG wd a cs.length cap)] w fun e w'=>∃ g,e=.returned (.agg (xG wd (some ⟨g,0,none⟩) cs.length cs.length))/\Own w' w.heap.size (.slice (some ⟨g,0,none⟩) cs.length cs.length) cs/\xE w w':=by
 obtain⟨i0,hi,iz0,iz1,iz2⟩:=info_parts (zfm (aLt:=aLt))
 go_enter (zfx func72),ntmps72
 go_wp2_with (at_make;refine wpList_make_full _ rfl _ _ 31 rfl w.heap.size 48 i0 (.agg #[J 0,J 0]) 2 SqG.underlying31 hi iz0 iz1 .i64 .i64 _ _ cs.length rfl rfl rfl rfl ?_ ?_ ?_ ?_)
 ·rw[iz2];omega
 ·unfold maxLen;omega
 ·simp;omega
 intro w3 h6 h7
 have h1:=(Below.refl _ _).grown h7 (Nat.le_refl _) (fun k hk=>by cases hk)
 have he:=h1.size
 have h8:xE w w3:=zae bel qn h1
 have p0:w3.cell? ⟨w.heap.size,0,none⟩=some (J wd):=zaa h1 ql
 have p1:w3.cell? ⟨w.heap.size,1,none⟩=some (.slice a cs.length cap):=zaa h1 ql
 have p4:w3.cell? ⟨w.heap.size+1,0,none⟩=some (J 0):=zaa h1 ql
 have p5:w3.cell? ⟨w.heap.size+1,1,none⟩=some (.slice none 0 0):=zaa h1 ql
 have f4:w3.frozen? ⟨w.heap.size+1,0,none⟩=false:=zak h1 (v:=J 0) ql ql
 have f5:w3.frozen? ⟨w.heap.size+1,1,none⟩=false:=zak h1 (v:=.slice none 0 0) ql ql
 clear h7 h1
 simp at he h6
 have hf:=hC.below h8
 rcases hf with h0|⟨b,off,rfl,hl,h4⟩
 ·rw[h0] at h5;simp at h5
 go_wp2_with (refine zn8 rfl (.tmp 8) (.tmp 10) 31 31 rfl 48 SqG.underlying31 zru w.heap.size (w.heap.size+1+1) cs.length cs.length _ ⟨b,off,none⟩ cap rfl rfl h6 (flat cs) (zfj cs) ?_ ?_ ?_)
 ·exact ziJ h4
 ·exact zlD cs
 intro w4 h9 h2
 have hg:Own w4 w.heap.size (.slice (some ⟨w.heap.size+1+1,0,none⟩) cs.length cs.length) cs:=h9
 have hj:xE w w4:=h8.grown h2 qg (fun k hk=>by simp at hk;omega)
 have hp:=h2.size
 have h3:∀ x,x<w.heap.size+1+1->some x≠some (w.heap.size+1+1):=by intro x hx;simp;omega
 replace f4:=(World.frozen?_of_block (a:=⟨w.heap.size+1,0,none⟩) (h2.block (w.heap.size+1) qg (h3 _ qg))).trans f4
 replace f5:=(World.frozen?_of_block (a:=⟨w.heap.size+1,1,none⟩) (h2.block (w.heap.size+1) qg (h3 _ qg))).trans f5
 replace p0:=h2.cell p0 (h3 _ qn)
 replace p1:=h2.cell p1 (h3 _ qn)
 replace p4:=h2.cell p4 (h3 _ qm)
 replace p5:=h2.cell p5 (h3 _ qm)
 clear h9 h2 h4 h3 hC h6
 go_wp2
 refine bodyPost_ret (v:=.agg (xG wd (some ⟨w.heap.size+1+1,0,none⟩) cs.length cs.length)) (by simp[results,results72,go_sem,p4,p5]) rfl ⟨_,rfl,?_,?_⟩
 ·exact(hg.other qm _).other qm _
 ·exact(hj.setCell qm _).setCell qm _
theorem zfW(wd:Int)(a:Od)(cap:Nat)(cs:Lp)(at_ k l:Int)(w:World)(hC:zaf w a cs)(hm:cs.length<=1048576)(he:zeb wd cs at_ k l=true) :
  Calls (SqG.prog aLt) 65 #[.agg (xG wd a cs.length cap),J at_,.agg #[J k,J l]] w fun e w'=>∃ g,e=.returned (.tuple #[.agg (xG wd (some ⟨g,0,none⟩) cs.length cs.length),.bool true])/\Own w' w.heap.size (.slice (some ⟨g,0,none⟩) cs.length cs.length) (cs.set at_.toNat (k,l))/\xE w w':=by
 obtain⟨i0,hi,iz0,iz1,iz2⟩:=info_parts (zfm (aLt:=aLt))
 simp only[zeb,Bool.and_eq_true,decide_eq_true_eq] at he
 obtain⟨h1,h2,h3,h4⟩:=he
 obtain⟨n,rfl⟩:=Int.eq_ofNat_of_zero_le h3
 have hy:=(zsV wd cs h1).2.2.2.2.2.1
 have hp:inP (n:Int) cs.length=true:=decide_eq_true ⟨h3,h4⟩
 go_enter (zfx func65),ntmps65
 go_wp2_with fail
 refine(zar _ _ _ cs _ (hC.below bel) qg).mono ?_
 rintro e w1 ⟨rfl,h0⟩
 have hl:=h0.size
 simp at hl
 have hq:xE w w1:=zae bel qn h0
 have p0:w1.cell? ⟨w.heap.size,0,none⟩=some (J wd):=zaa h0 ql
 have p1:w1.cell? ⟨w.heap.size,1,none⟩=some (.slice a cs.length cap):=zaa h0 ql
 have p2:w1.cell? ⟨w.heap.size+1,0,none⟩=some (J k):=zaa h0 ql
 have p3:w1.cell? ⟨w.heap.size+1,1,none⟩=some (J l):=zaa h0 ql
 have p4:w1.cell? ⟨w.heap.size+1+1,0,none⟩=some (J 0):=zaa h0 ql
 have p5:w1.cell? ⟨w.heap.size+1+1,1,none⟩=some (.slice none 0 0):=zaa h0 ql
 have f4:w1.frozen? ⟨w.heap.size+1+1,0,none⟩=false:=zak h0 (v:=J 0) ql ql
 have f5:w1.frozen? ⟨w.heap.size+1+1,1,none⟩=false:=zak h0 (v:=.slice none 0 0) ql ql
 clear h0
 go_wp2_with fail
 refine(zbl _ _ _).mono ?_
 rintro e wk ⟨rfl,h5⟩
 have hD:=h5.size
 have hs:xE w wk:=zae hq qg h5
 replace f4:=zak h5 p4 f4;replace f5:=zak h5 p5 f5;replace p0:=zaa h5 p0;replace p1:=zaa h5 p1;replace p2:=zaa h5 p2;replace p3:=zaa h5 p3;replace p4:=zaa h5 p4;replace p5:=zaa h5 p5
 clear h5
 go_wp2_with fail
 refine(zcS _ _ _ _ _ qg _).mono ?_
 rintro e w2 ⟨rfl,h6⟩
 have hE:=h6.size
 have hg:xE w w2:=zae hs qg h6
 replace f4:=zak h6 p4 f4;replace f5:=zak h6 p5 f5;replace p0:=zaa h6 p0;replace p1:=zaa h6 p1;replace p2:=zaa h6 p2;replace p3:=zaa h6 p3;replace p4:=zaa h6 p4;replace p5:=zaa h6 p5
 clear h6
 go_wp2_with fail
 refine(zce _ _ _ cs _ (hC.below hg) hm qg).mono ?_
 rintro e w4 ⟨g,rfl,hf,h7⟩
 have hF:=h7.size
 have hu:xE w w4:=zae hg qg h7
 replace f4:=zak h7 p4 f4;replace f5:=zak h7 p5 f5;replace p0:=zaa h7 p0;replace p1:=zaa h7 p1;replace p2:=zaa h7 p2;replace p3:=zaa h7 p3;replace p4:=zaa h7 p4;replace p5:=zaa h7 p5
 clear h7
 have hj:n<cs.length:=qg
 obtain⟨c1,c2,g1,g2⟩:=hf.cell rfl n hj
 have hw:=hf.lt
 have hG:¬ g=w4.heap.size:=qg
 have hJ:¬ w4.heap.size=g:=qg
 obtain⟨hz,hA⟩:=hw
 have hk:¬ g=w.heap.size+1+1:=qg
 have hr2:¬ w.heap.size+1+1=g:=qg
 have hK:¬ w4.heap.size=w.heap.size+1+1:=qg
 have hL:¬ w.heap.size+1+1=w4.heap.size:=qg
 have h8:∀ o,xE w4 (w4.alloc o):=fun o=>(Below.refl _ _).alloc (Nat.le_refl _) o
 have q2:∀ o,(w4.alloc o).cell? ⟨w.heap.size+1,0,none⟩=some (J k):=fun o=>zaa (h8 o) p2
 have q3:∀ o,(w4.alloc o).cell? ⟨w.heap.size+1,1,none⟩=some (J l):=fun o=>zaa (h8 o) p3
 have q4:∀ o,(w4.alloc o).cell? ⟨w.heap.size+1+1,0,none⟩=some (J 0):=fun o=>zaa (h8 o) p4
 have q5:∀ o,(w4.alloc o).cell? ⟨w.heap.size+1+1,1,none⟩=some (.slice none 0 0):=fun o=>zaa (h8 o) p5
 have e4:∀ o,(w4.alloc o).frozen? ⟨w.heap.size+1+1,0,none⟩=false:=fun o=>zak (h8 o) p4 f4
 have e5:∀ o,(w4.alloc o).frozen? ⟨w.heap.size+1+1,1,none⟩=false:=fun o=>zak (h8 o) p5 f5
 have d1:∀ o,(w4.alloc o).cell? ⟨g,n * 2,none⟩=some (J (cs.getD n (0,0)).fst):=fun o=>zaa (h8 o) c1
 have d2:∀ o,(w4.alloc o).cell? ⟨g,n * 2+1,none⟩=some (J (cs.getD n (0,0)).snd):=fun o=>zaa (h8 o) c2
 have i1:∀ o,(w4.alloc o).frozen? ⟨g,n * 2,none⟩=false:=fun o=>zak (h8 o) c1 g1
 have i2:∀ o,(w4.alloc o).frozen? ⟨g,n * 2+1,none⟩=false:=fun o=>zak (h8 o) c2 g2
 have HS:=hf.set rfl n k l hj
 have h9:∀(u v:Value) (o:Obj),Below ((w4.setCell ⟨g,n * 2,none⟩ u).setCell ⟨g,n * 2+1,none⟩ v).heap.size ((w4.setCell ⟨g,n * 2,none⟩ u).setCell ⟨g,n * 2+1,none⟩ v) (((w4.setCell ⟨g,n * 2,none⟩ u).setCell ⟨g,n * 2+1,none⟩ v).alloc o):=fun u v o=>(Below.refl _ _).alloc (Nat.le_refl _) o
 have r4:∀(u v:Value),((w4.setCell ⟨g,n * 2,none⟩ u).setCell ⟨g,n * 2+1,none⟩ v).cell? ⟨w.heap.size+1+1,0,none⟩=some (J 0):=fun u v=>by simp[go_sem,p4]
 have r5:∀(u v:Value),((w4.setCell ⟨g,n * 2,none⟩ u).setCell ⟨g,n * 2+1,none⟩ v).cell? ⟨w.heap.size+1+1,1,none⟩=some (.slice none 0 0):=fun u v=>by simp[go_sem,p5]
 have s4:∀(u v:Value) (o:Obj),(((w4.setCell ⟨g,n * 2,none⟩ u).setCell ⟨g,n * 2+1,none⟩ v).alloc o).cell? ⟨w.heap.size+1+1,0,none⟩=some (J 0):=fun u v o=>zaa (h9 u v o) (r4 u v)
 have s5:∀(u v:Value) (o:Obj),(((w4.setCell ⟨g,n * 2,none⟩ u).setCell ⟨g,n * 2+1,none⟩ v).alloc o).cell? ⟨w.heap.size+1+1,1,none⟩=some (.slice none 0 0):=fun u v o=>zaa (h9 u v o) (r5 u v)
 have t4:∀(u v:Value) (o:Obj),(((w4.setCell ⟨g,n * 2,none⟩ u).setCell ⟨g,n * 2+1,none⟩ v).alloc o).frozen? ⟨w.heap.size+1+1,0,none⟩=false:=fun u v o=>zak (h9 u v o) (r4 u v) (by simp[go_sem,f4])
 have t5:∀(u v:Value) (o:Obj),(((w4.setCell ⟨g,n * 2,none⟩ u).setCell ⟨g,n * 2+1,none⟩ v).alloc o).frozen? ⟨w.heap.size+1+1,1,none⟩=false:=fun u v o=>zak (h9 u v o) (r5 u v) (by simp[go_sem,f5])
 clear hC h8 h9 r4 r5
 go_wp2
 refine bodyPost_ret (v:=.tuple #[.agg (xG wd (some ⟨g,0,none⟩) cs.length cs.length),.bool true]) (by simp[results,results65,go_sem,s4,s5]) rfl ⟨_,rfl,?_,?_⟩
 ·rw[Int.toNat_natCast]
  exact((((HS.mono qg).alloc _).other hk _).other hk _)
 ·exact((((hu.setCell (by simp only;omega) _).setCell (by simp only;omega) _).alloc (by simp only[World.size_setCell];omega) _).setCell (by simp only;omega) _).setCell (by simp only;omega) _
theorem zgv{ops:Array Oper}{o:Oper}{Q:Exit->Act->Wq}{E:Prop}(h6:o.guard=none)(s x:Operand)(t:TypeId)(ho:o.op=.call { callee:=.builtin .append,args:=#[s,x],argTypes:=#[t,t] })(base:Nat)(e:TypeId)(i:TypeInfo)(z:Value)(size bytes:Nat)(ht:P.underlying t=some (.slice e))(hi:P.info? e=some i)(hz:i.zero=some z)(h2:i.size=size)(h7:i.bytes=bytes)(h8:z.cells.size=size)(h9:0<size)(v:Value)(n:Nat)(xs:List Value)(hs:a.eval s=v)(h5:w.ownsRow base e size v n xs)(ad:Addr)(m c:Nat)(news:List Value)(hx:a.eval x=.slice (some ad) m c)(hl:news.length=m * size)(h3:∀ j u,news[j]?=some u->w.cell? (ad.add j)=some u)(h1:∀ u∈news,u.oneCell'=true)(he:n+m<=maxLen)(h0:(n+m) * bytes<=140737488355328)(h4:base<=w.heap.size)(h:∀ v' w',w'.ownsRow base e size v' (n+m) (xs++news)->w.grownBy w' v.ownBlock->(v'=.slice none 0 0 ↔ v=.slice none 0 0/\m=0)->K (a.put o.dst v') w') :
  if Region.wanted o (yielded ops a.tmps)=true then Oper.wp P o a w K Q else E:=by
 have hw:Region.wanted o (yielded ops a.tmps)=true:=by simp[Region.wanted,h6]
 rw[if_pos hw]
 exact wp_append_own w s x t ho base e i z size bytes ht hi hz h2 h7 h8 h9 v n xs hs h5 ad m c news hx hl h3 h1 he h0 h4 h
theorem zrg{e:TypeId}{size:Nat}(h:w.ownsRow B e size v n xs)(hn:0<n):∃ g cap,v=.slice (some ⟨g,0,none⟩) n cap/\B<=g/\g<w.heap.size:=by
 rcases h.2 with ⟨_,h0⟩|⟨g,cap,cur,hv,hB,hg,_⟩
 ·omega
 ·exact⟨g,cap,hv,hB,(gei hg).1⟩
theorem zmT(w:World)(B:Nat)(e:TypeId)(size:Nat)(hB:B<=w.heap.size):(w.alloc (.cells #[] e)).ownsRow B e size (.slice (some ⟨w.heap.size,0,none⟩) 0 0) 0 []:=by
 refine⟨qm,Or.inr ⟨w.heap.size,0,#[],rfl,hB,heap_alloc_new w _,Nat.le_refl _,qs,qm,qm⟩⟩
theorem zg8(wd:Int)(b off cap:Nat)(cs:Lp)(w:World)(h6:b<w.heap.size)(h1:∀ i,i<cs.length->w.cell? ⟨b,off+i * 2,none⟩=some (J (cs.getD i (0,0)).1)/\w.cell? ⟨b,off+i * 2+1,none⟩=some (J (cs.getD i (0,0)).2))(hm:cs.length<=1048576)(hp:0<cs.length) :
  Calls (SqG.prog aLt) 63 #[.agg (xG wd (some ⟨b,off,none⟩) cs.length cap)] w fun e w'=>∃ g cap',e=.returned (.agg (xG wd (some ⟨g,0,none⟩) cs.length cap'))/\Own w' w.heap.size (.slice (some ⟨g,0,none⟩) cs.length cap') cs/\xE w w':=by
 obtain⟨i0,hi,iz0,iz1,iz2⟩:=info_parts (zfm (aLt:=aLt))
 go_enter (zfx func63),ntmps63
 go_wp2_with fail
 have hE:((((w.alloc (.cells (xG wd (some ⟨b,off,none⟩) cs.length cap) 33)).alloc (.cells (xG 0 none 0 0) 33)).alloc (.cells #[] 48)).drew).ownsRow w.heap.size 48 2 (.slice (some ⟨w.heap.size+1+1,0,none⟩) 0 0) 0 [] :=
  World.ownsRow.drew (by have:=zmT ((w.alloc (.cells (xG wd (some ⟨b,off,none⟩) cs.length cap) 33)).alloc (.cells (xG 0 none 0 0) 33)) w.heap.size 48 2 qn;simpa using this)
 have h5:xE w ((((w.alloc (.cells (xG wd (some ⟨b,off,none⟩) cs.length cap) 33)).alloc (.cells (xG 0 none 0 0) 33)).alloc (.cells #[] 48)).drew):=bel
 have h3:∀ j u,(flat cs)[j]?=some u->((((w.alloc (.cells (xG wd (some ⟨b,off,none⟩) cs.length cap) 33)).alloc (.cells (xG 0 none 0 0) 33)).alloc (.cells #[] 48)).drew).cell? ((⟨b,off,none⟩:Addr).add j)=some u:=by
  intro j u hj
  rw[h5.cell (by unfold Addr.add;split <;> exact h6)]
  exact ziJ h1 j u hj
 have HE:=hE
 have HSrc:=h3
 clear hE h3 h1
 go_region_law (refine zgv rfl (.tmp 5) (.tmp 7) 31 rfl w.heap.size 48 i0 _ 2 16 SqG.underlying31 hi iz0 iz1 iz2 rfl qj (.slice (some ⟨w.heap.size+1+1,0,none⟩) 0 0) 0 [] rfl HE ⟨b,off,none⟩ cs.length cap (flat cs) rfl (zfj cs) HSrc (zlD cs) qs qg qn ?_;intro v' w1 h2 h0 h8;simp only[Nat.zero_add,List.nil_append] at h2;obtain⟨g,cap',hv,h9,he⟩:=zrg h2 hp;subst hv;have q2:w1.cell? ⟨w.heap.size,0,none⟩=some (J wd):=h0.cell ql (by simp[Value.ownBlock];omega);have q0:w1.cell? ⟨w.heap.size+1,0,none⟩=some (J 0):=h0.cell ql (by simp[Value.ownBlock]);have q1:w1.cell? ⟨w.heap.size+1,1,none⟩=some (.slice none 0 0):=h0.cell ql (by simp[Value.ownBlock]);have f0:w1.frozen? ⟨w.heap.size+1,0,none⟩=false:=(World.frozen?_of_block (a:=⟨w.heap.size+1,0,none⟩) (h0.block (w.heap.size+1) qm (by simp[Value.ownBlock]))).trans ql;have f1:w1.frozen? ⟨w.heap.size+1,1,none⟩=false:=(World.frozen?_of_block (a:=⟨w.heap.size+1,1,none⟩) (h0.block (w.heap.size+1) qm (by simp[Value.ownBlock]))).trans ql)
 all_goals
  go_wp2
  have h7:xE w w1:=h5.grown h0 qn (fun k hk=>by simp[Value.ownBlock] at hk;omega)
  have h4:g≠w.heap.size+1:=by
   intro hx
   subst hx
   have hO:Own w1 w.heap.size (.slice (some ⟨w.heap.size+1,0,none⟩) cs.length cap') cs:=h2
   have hc:=(hO.cell rfl 0 hp).1
   have hc2:=(hO.cell rfl 0 hp).2.1
   simp only[Nat.zero_mul,Nat.zero_add] at hc2
   rw[q1] at hc2
   simp at hc2
  refine bodyPost_ret (v:=.agg (xG wd (some ⟨g,0,none⟩) cs.length cap')) (by simp[results,results63,go_sem,q0,q1]) rfl ⟨g,cap',rfl,?_,?_⟩
  ·exact(Own.other (Own.other h2 h4 _) h4 _)
  ·exact(h7.setCell qm _).setCell qm _
