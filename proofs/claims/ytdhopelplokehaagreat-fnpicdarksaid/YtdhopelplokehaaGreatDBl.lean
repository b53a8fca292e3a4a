/- Of the proof: PGl -/
import Derived.Test.YtdhopelplokehaaGreatDAx
import Derived.Test.YtdhopelplokehaaGreatDBj
import Derived.Test.YtdhopelplokehaaGreatDBk
set_option linter.unusedVariables false
namespace Go.Proofs.YtdhopelplokehaaGreat
namespace Sp
open Go.RowKit
def updC (f:Nat->Int × Int->Int × Int) (cs:List (Int × Int)) (n:Nat):List (Int × Int):=(List.range cs.length).map fun i=>if i < n then f i (cs.getD i (0,0)) else cs.getD i (0,0)
theorem updC_len (f:Nat->Int × Int->Int × Int) (cs:List (Int × Int)) (n:Nat):(updC f cs n).length=cs.length:=by simp [updC]
theorem updC_at (f:Nat->Int × Int->Int × Int) (cs:List (Int × Int)) (n:Nat) {j:Nat} (hj:j < cs.length):(updC f cs n).getD j (0,0)=if j < n then f j (cs.getD j (0,0)) else cs.getD j (0,0):=by
 unfold updC
 simp only [List.getD_eq_getElem?_getD,List.getElem?_map,List.getElem?_range hj,Option.map_some,Option.getD_some]
theorem ext_getD {a b:List (Int × Int)} (hl:a.length=b.length) (h:∀ i,i < a.length->a.getD i (0,0)=b.getD i (0,0)):a=b:=by
 refine List.ext_getElem hl fun i h1 h2=>?_
 have:=h i h1
 simpa only [List.getD_eq_getElem?_getD,List.getElem?_eq_getElem h1,List.getElem?_eq_getElem h2,Option.getD_some] using this
theorem updC_zero (f:Nat->Int × Int->Int × Int) (cs:List (Int × Int)):updC f cs 0=cs :=
 ext_getD (updC_len f cs 0) fun i hi=>by rw [updC_at f cs 0 (by rw [updC_len] at hi; exact hi),if_neg (by omega)]
theorem updC_set (f:Nat->Int × Int->Int × Int) (cs:List (Int × Int)) {i:Nat} (hi:i < cs.length):(updC f cs i).set i (f i (cs.getD i (0,0)))=updC f cs (i + 1):=by
 refine ext_getD (by simp [updC_len]) fun j hj=>?_
 have hj':j < cs.length:=by simpa [updC_len] using hj
 rw [updC_at f cs (i + 1) hj']
 by_cases e:j=i
 ·subst e
  rw [if_pos (by omega),List.getD_eq_getElem?_getD,List.getElem?_set_self (by rw [updC_len]; exact hi)]
  rfl
 ·rw [List.getD_eq_getElem?_getD,List.getElem?_set_ne (Ne.symm e),<- List.getD_eq_getElem?_getD,updC_at f cs i hj']
  by_cases c:j < i
  ·rw [if_pos c,if_pos (by omega)]
  ·rw [if_neg c,if_neg (by omega)]
theorem updC_same (f:Nat->Int × Int->Int × Int) (cs:List (Int × Int)) {i:Nat} (hi:i < cs.length) (h:f i (cs.getD i (0,0))=cs.getD i (0,0)):updC f cs i=updC f cs (i + 1):=by
 refine ext_getD (by simp [updC_len]) fun j hj=>?_
 have hj':j < cs.length:=by simpa [updC_len] using hj
 rw [updC_at f cs i hj',updC_at f cs (i + 1) hj']
 by_cases e:j=i
 ·subst e
  rw [if_neg (by omega),if_pos (by omega),h]
 ·by_cases c:j < i
  ·rw [if_pos c,if_pos (by omega)]
  ·rw [if_neg c,if_neg (by omega)]
theorem updC_ok {wd:Int} {cs:List (Int × Int)} (f:Nat->Int × Int->Int × Int) (n:Nat) (h:okG wd cs=true) (hf:∀ i c,okC c.1 c.2=true->okC (f i c).1 (f i c).2=true):okG wd (updC f cs n)=true:=by
 simp only [okG,Bool.and_eq_true,List.all_eq_true,updC_len] at h ⊢
 refine ⟨h.1,fun c hc=>?_⟩
 unfold updC at hc
 obtain ⟨i,hi,rfl⟩:=List.mem_map.1 hc
 have hi':i < cs.length:=List.mem_range.1 hi
 have hq:okC (cs.getD i (0,0)).1 (cs.getD i (0,0)).2=true:=by
  have e:cs.getD i (0,0)=cs[i]:=by rw [List.getD_eq_getElem?_getD,List.getElem?_eq_getElem hi',Option.getD_some]
  rw [e]
  exact h.2 _ (List.getElem_mem hi')
 split
 ·exact hf _ _ hq
 ·exact hq
theorem updC_get (f:Nat->Int × Int->Int × Int) (cs:List (Int × Int)) (j:Nat):(updC f cs cs.length).getD j (0,0)=if j < cs.length then f j (cs.getD j (0,0)) else (0,0):=by
 by_cases hj:j < cs.length
 ·rw [updC_at f cs _ hj,if_pos hj,if_pos hj]
 ·rw [if_neg hj,List.getD_eq_getElem?_getD,List.getElem?_eq_none (by rw [updC_len]; omega)]
  rfl
end Sp
end Go.Proofs.YtdhopelplokehaaGreat
